import PyProof.Rows.All
import Wide.All
import OpenK.AllK
import Wide.FinOn
import HandS.ForMost
import HandS.IsInst
import HandS.Deep
import HandS.FStr
import HandS.Defaults
import HandS.MakeKw
import HandS.MakeKwOnly
import HandS.Property
import HandS.Flow
import HandS.Style
import HandS.TupLe
import HandS.WideBits
import HandS.RaiseMore
import HandS.SlotsOwn
import HandS.ClsMeth
import HandS.More
import HandS.Iter
import HandS.Walk
import KE.GoesMore
import KE.GoesEnum
import KE.GoesNew
import HandS.Star
import HandS.OwnEq
import PyProof.FitsReplace
import PyProof.ReprLoop
import HandS.Text
import HandS.TupAny
import KE.KOpsOwn
import KE.LtSeq
import KE.Datum
import HandS.ExcInit
import HandS.ExcField
import HandS.TryMany
import KE.KExcInit
import HandS.Lambda
import HandS.TupMul
import HandS.Strs
import OpenK.KMeth
import HandS.Dict
import PyProof.ReprRoads
import HandS.EndTab
import HandS.ExcIs
import HandS.WordsExc
import PyProof.NeKinds
import PyProof.StrLawsRepr
import PyProof.ReprNest
import KE.KExcIs
import PyProof.ListRange
import PyProof.LongRange
import HandS.Conv
import PySem.Challenge.RW_unlikecalls_k14_whole_plain_works
import HandS.TryOnly
import KE.KNestM
set_option Elab.async false
set_option linter.all false
set_option maxRecDepth 100000
set_option maxHeartbeats 4000000
namespace UL
open PySem L2
/-! what every law of this document draws from: a list of two ints -/
/-- all that is tracked stays, but the object at p -/
def Stay (p : Addr) (H H' : Hp) : Prop := ∀ b o, b ≠ p → H b = some o → H' b = some o
theorem Stay.refl (p : Addr) (H : Hp) : Stay p H H := fun _ _ _ h => h
theorem Stay.trans {p : Addr} {H H1 H2 : Hp} (a : Stay p H H1) (b : Stay p H1 H2) : Stay p H H2 := fun c o n h => b c o n (a c o n h)
theorem Same.stay {H H' : Hp} (s : L2.Same H H') (p : Addr) : Stay p H H' := fun b o _ h => s b o h
theorem same_new {H : Hp} {p : Addr} {o : HO} (h : H p = none) : L2.Same H (upd H p o) := fun b u e => by rw [upd_ne (ne_of_none e h)]; exact e
/-- the pot: what is left of the digits, and the mixed number -/
def Pot (H : Hp) (p : Addr) : Prop := ∃ a b : Int, H p = some (.lst [.int a, .int b]) ∧ 0 ≤ b ∧ b < 4294967296
theorem Pot.same {H H' : Hp} {p : Addr} (h : Pot H p) (s : L2.Same H H') : Pot H' p := by
  obtain ⟨a, b, e, h1, h2⟩ := h
  exact ⟨a, b, s _ _ e, h1, h2⟩
theorem stay_upd {H : Hp} {p : Addr} {o : HO} : Stay p H (upd H p o) := fun b u n e => by rw [upd_ne n]; exact e
/-- _law_draw(pot, n): an int from 0 to n - 1 -/
def spDraw : Sp := fun vs H Q _ => ∃ (p : Addr) (n : Int), vs = [.ref p, .int n] ∧ Pot H p ∧ 0 < n ∧ n < 1073741824 ∧
  ∀ (d : Int) (H' : Hp), 0 ≤ d → d < n → Pot H' p → Stay p H H' → Q (.int d) H'
/-- _law_pick(pot, some): one of them -/
def spPick (K : PySem.W.Frag) : Sp := fun vs H Q _ => ∃ (p l : Addr) (xs : List V), vs = [.ref p, .ref l] ∧ Pot H p ∧ SqL K H l xs ∧ xs ≠ [] ∧ xs.length < 1073741824 ∧
  ∀ (i : Nat) (v : V) (H' : Hp), xs[i]? = some v → Pot H' p → Stay p H H' → Q v H'
end UL
set_option Elab.async false
set_option linter.all false
set_option maxRecDepth 100000
set_option maxHeartbeats 4000000
namespace UL
open PySem PySem.Spec PyProof.Rows L2
/-! ### instances of the text's own classes under ==, str, repr -/
section
variable {X : Cx} {CX : CXT} {C g : Addr} {n : Nat} {sp : Sp} {E : XK}
/-- what is asked of an instance's class for isinstance -/
structure CIsi (K : PySem.W.Frag) (C : Addr) : Prop where
  cl : Cls K C
  ca : PySem.W.findIn K (.ref C) "__class__" = some (some (.builtin "object.__class__"))
  cn : PySem.W.specialIn K (.builtin "object.__class__") "__get__" = some (some (.builtin "getset_descriptor.__get__"))
  ct : PySem.W.takesIn K (.builtin "object.__class__") = some true
  cm : PySem.W.mroIn K C (.type "object") = some true
theorem CIsi.ty {K : PySem.W.Frag} {C a dx : Addr} {H : Hp} {fs : List (Str × V)} (c : CIsi K C) (h : H a = some (.ins C dx fs)) : TyX K H (.ref a) (.ref C) :=
  .base (.ins h c.cl c.ca c.cn c.ct c.cm)
/-- x == y by the def at g, x an instance of the class at C, y anything whose type is known -/
def rEqI (K : PySem.W.Frag) (C : Addr) (sp : Sp) (E : XK) : R2 := fun x y H Q => ∃ (a dx : Addr) (fs : List (Str × V)) (t : Value), x = .ref a ∧ H a = some (.ins C dx fs) ∧ TyX K H y t ∧ PySem.W.notFirst K C t = true ∧ sp [x, y] H Q E
theorem op_eqI (hs : PySem.W.findIn X.K (.ref C) "__eq__" = some (some (.ref g))) (hf : PySem.W.isFn X.K (.ref g) = true) (F : FnR X.prog X.w X.K X.mg X.base CX n g sp) (hr : Room n X.A) (hx : Passes CX X E) :
    OpR X (compareOp .Eq) (rEqI X.K C sp E) := by
  intro pins s σ H x y v u Q I rx ry h
  obtain ⟨a, dx, fs, t, rfl, ha, ty, hn, q⟩ := h
  cases (show v = Value.ref a from rx)
  obtain ⟨mA, O, _⟩ := ins_get I.hok ha
  obtain ⟨od, J, _⟩ := O.look
  obtain ⟨m, hF⟩ := I.fr
  obtain ⟨Pk, Z, pk, _⟩ := kit_of I ry ty
  show wpAny _ _ (richCompare .Eq (.ref a) u) _ _ _
  refine PySem.W.cmp_K (op := .Eq) hr.units0 hF I.ok.mod.kin J (Z.ty _ _ I.kIn pk) hn hs hf ?_
  refine wpAny_mono (wpAny_call (run_fnR (us := [.ref a, u]) (vs := [.ref a, y]) F hr hx I (.cons rfl (.cons ry .nil)) q)) (fun r s' z => ?_) fun _ _ e => e
  obtain ⟨z', H', I', rz, qz⟩ := z
  exact SlX.cmpback rz ⟨z', H', I', rz, qz⟩
/-- repr(x), str(x) by the def at g: it hands back a text -/
def rShowI (C : Addr) (sp : Sp) (E : XK) : List V → Hp → VK → Prop := fun xs H Q => ∃ (a dx : Addr) (fs : List (Str × V)), xs = [.ref a] ∧ H a = some (.ins C dx fs) ∧ sp [.ref a] H (fun z H' => ∃ y, z = .str y ∧ Q z H') E
theorem call_reprI (hs : PySem.W.findIn X.K (.ref C) "__repr__" = some (some (.ref g))) (hf : PySem.W.isFn X.K (.ref g) = true) (F : FnR X.prog X.w X.K X.mg X.base CX n g sp) (hr : Room (n + 1) X.A) (hx : Passes CX X E) :
    CallR X (.builtin "repr") (rShowI C sp E) := by
  intro pins s σ H xs us Q I r h
  obtain ⟨a, dx, fs, rfl, ha, q⟩ := h
  obtain ⟨u, rfl, ru⟩ := vals1 r
  cases (show u = Value.ref a from ru)
  obtain ⟨mA, O, _⟩ := ins_get I.hok ha
  obtain ⟨od, J, _⟩ := O.look
  obtain ⟨m, hF⟩ := I.fr
  refine PySem.W.repr_K hr.in1.units0 hF I.ok.mod.kin J hs hf (wpAny_mono (wpAny_call (SlX.run_at (us := [.ref a]) (ws := [.ref a]) F hr.in1 I.env0.in1 hx I (.cons rfl .nil) q)) (fun w s' z => ?_) fun _ _ e => e)
  obtain ⟨z', H', I', rz, y, ey, qz⟩ := z
  subst ey
  obtain ⟨t, rfl⟩ := (show ∃ t, w = Value.str y t from rz)
  exact ⟨.str y, H', I', ⟨t, rfl⟩, qz⟩
theorem call_strI (hs : PySem.W.findIn X.K (.ref C) "__str__" = some (some (.ref g))) (hf : PySem.W.isFn X.K (.ref g) = true) (F : FnR X.prog X.w X.K X.mg X.base CX n g sp) (hr : Room (n + 2) X.A) (hx : Passes CX X E) :
    CallR X (.type "str") (rShowI C sp E) := by
  intro pins s σ H xs us Q I r h
  obtain ⟨a, dx, fs, rfl, ha, q⟩ := h
  obtain ⟨u, rfl, ru⟩ := vals1 r
  cases (show u = Value.ref a from ru)
  obtain ⟨mA, O, _⟩ := ins_get I.hok ha
  obtain ⟨od, J, _⟩ := O.look
  have hr2 : Room n X.A.in1.in1 := (show Room (n + 1) X.A.in1 from Room.in1 hr).in1
  refine PySem.W.kso_call hr2.units0 I.kIn J hs hf (wpAny_mono (wpAny_call (SlX.run_at (us := [.ref a]) (ws := [.ref a]) F hr2 I.env0.in1.in1 hx I (.cons rfl .nil) q)) (fun w s' z => ?_) fun _ _ e => e)
  obtain ⟨z', H', I', rz, y, ey, qz⟩ := z
  subst ey
  obtain ⟨t, rfl⟩ := (show ∃ t, w = Value.str y t from rz)
  exact ⟨.str y, H', I', ⟨t, rfl⟩, qz⟩
end
/-- a name of the module that holds v -/
theorem pe_gl {X : Cx} {x : Str} {v : V} {pos : Pos} (hg : Gl X x) (h : ∃ u, X.mg x = some u ∧ RelV v u) (hd : (x == ("__debug__" : Str)) = false := by decide) : PE X (.Name x pos) (tC v) :=
  let ⟨_, hm, r⟩ := h
  pe_glob hg hm r hd
/-! ### a static method, called by its class's name -/
/-- C.m is the def at g, a static method whose record stands at p -/
structure SMet (K : PySem.W.Frag) (C : Addr) (mc : Value) (m : Str) (p g : Addr) : Prop where
  rd : PySem.W.readsIn K C mc = true
  ga : PySem.W.specialIn K (.ref C) "__getattribute__" = some (some (.builtin "type.__getattribute__"))
  at_ : PySem.W.findCls K (.ref C) mc m = some (.get (.builtin "staticmethod.__get__") (.ref p) .none (.ref C))
  rc : ∃ rest, PySem.W.recIn K p "staticmethod" = some (.ref g :: rest)
  kp : PySem.W.keepIn K (.ref g) = true
section
variable {X : Cx} {CX : CXT} {C p g : Addr} {mc : Value} {k n : Nat} {fd : FuncData} {ps ks : List Str} {sp : Sp} {dvs : List V} {ds : List Value} {E : XK} {o e : Expr} {es : List Expr} {kws : List Keyword} {m : Str} {pos apos : Pos} {ta : TE} {t tk : TA}
  {gg : List Value → List Value → List Value} {gV : List V → List V → List V}
def tSMeth (C : Addr) (sp : Sp) (dvs : List V) (E : XK) (ta : TE) (t : TA) : TE := fun σ H Q => ta σ H fun x H1 => x = .ref C ∧ t σ H1 fun vs H2 => sp (vs ++ dvs) H2 Q E
theorem getsm_ok {pins : List (Addr × Obj)} {σ : L2.St} {H : Hp} {s : Shared} {A : Around} {E' : Value → Shared → Prop} {pl : Sem Bool} {Q : Value × List Value → Shared → Prop} (I : Inv X pins σ H s) (c : SMet X.K C mc m p g)
    (h : ∀ s', Inv X pins σ H s' → Q (.ref g, []) s') : wpAny (model X.prog X.w) A (getMethod (.ref C) m pl) Q E' s := by
  obtain ⟨rest, hp⟩ := c.rc
  refine PySem.W.method_cls I.kIn c.ga (PySem.W.cls_bind I.kIn c.rd c.at_ ?_)
  exact wpAny_call (PySem.W.sm_get (s := { s with toks := s.toks + 1 }) I.kIn hp (PySem.W.handed_on rfl (h _ (I.tok _))))
theorem pe_smeth {pl : Sem Bool} (he : PE X o ta) (c : SMet X.K C mc m p g) (F : FnOk X.prog X.w X.K X.mg X.base CX k g fd ps sp) (hr : Room k X.A) (hb : Binds X.K fd ps ds) (hd : Vals dvs ds) (hx : Passes CX X E) (ha : PA X (e :: es) t)
    (hst : starEach (e :: es) X.env = (false, eval e X.env) :: starEach es X.env := by rfl) (hpl : (backTo pos (starEach es X.env)).any (·.1) = false := by rfl)
    (ht : eval (.Call (.Attribute o m apos) (e :: es) [] pos) X.env = (do
      let ov ← eval o X.env
      standAt apos.atName
      let (fv, fi) ← holding [ov] (getMethod ov m pl)
      callWith pos fv fi (backTo pos (starEach (e :: es) X.env)) (backToKw pos (keywordEach [] X.env))) := by rfl) :
    PE X (.Call (.Attribute o m apos) (e :: es) [] pos) (tSMeth C sp dvs E ta t) := by
  refine ⟨fun pins s σ H Q I h => ?_⟩
  refine PySem.W.methodCall_KW (pl := pl) (thn (he.run pins s σ H _ I h) fun u s1 ⟨x, H1, I1, rx, ex, q⟩ => ?_) ht
  subst ex
  obtain rfl : u = Value.ref C := rx
  refine getsm_ok I1 c fun s2 I2 => ?_
  refine PySem.W.callWith_K (first := []) (h₀ := X.base) I.ok.mod.kin c.kp (thn (ha.run pos pins s2 σ H1 _ I2 q) fun us s3 ⟨vs, H2, I3, r, q2⟩ => ⟨I3.kIn, ?_⟩) hst hpl
  exact run_fn F hr hb hd hx I3 r q2
/-- C.m(k = v, ..): keywords alone -/
def tSMethK (C : Addr) (m : Nat) (sp : Sp) (gV : List V → List V → List V) (E : XK) (ta : TE) (tk : TA) : TE := fun σ H Q => ta σ H fun x H1 => x = .ref C ∧ tk σ H1 fun zs H2 => zs.length = m ∧ sp (gV [] zs) H2 Q E
theorem pe_smethK {pl : Sem Bool} (he : PE X o ta) (c : SMet X.K C mc m p g) (F : FnOk X.prog X.w X.K X.mg X.base CX k g fd ps sp) (hr : Room k X.A) (hb : KBn X.K fd ps 0 ks gg gV) (hx : Passes CX X E) (hkw : PK X kws tk)
    (hall : (backToKw pos (keywordEach kws X.env)).all (·.1.isSome) = true := by rfl) (hks : (backToKw pos (keywordEach kws X.env)).filterMap (·.1) = ks := by rfl)
    (hpl : ((backTo pos (starEach [] X.env)).any (·.1) || (backToKw pos (keywordEach kws X.env)).any (·.1.isNone)) = false := by rfl)
    (ht : eval (.Call (.Attribute o m apos) [] kws pos) X.env = (do
      let ov ← eval o X.env
      standAt apos.atName
      let (fv, fi) ← holding [ov] (getMethod ov m pl)
      callWith pos fv fi (backTo pos (starEach [] X.env)) (backToKw pos (keywordEach kws X.env))) := by rfl) :
    PE X (.Call (.Attribute o m apos) [] kws pos) (tSMethK C ks.length sp gV E ta tk) := by
  refine ⟨fun pins s σ H Q I h => ?_⟩
  refine PySem.W.methodCall_KW (pl := pl) (thn (he.run pins s σ H _ I h) fun u s1 ⟨x, H1, I1, rx, ex, q⟩ => ?_) ht
  subst ex
  obtain rfl : u = Value.ref C := rx
  refine getsm_ok I1 c fun s2 I2 => ?_
  refine PySem.W.callWith_KW0 (h₀ := X.base) I.ok.mod.kin c.kp hall ?_ hpl
  refine thn (hkw.run pos pins s2 σ H1 _ I2 q) fun ws s3 ⟨zs, H2, I3, rz, l2, q2⟩ => ⟨I3.kIn, ?_⟩
  rw [hks]
  exact run_fnN (us := []) (vs := []) F hr hb hx I3 .nil rz rfl l2 q2
end
end UL
set_option Elab.async false
set_option linter.all false
set_option maxRecDepth 100000
set_option maxHeartbeats 4000000
namespace UL
open PySem PySem.Spec PyProof.Rows L2
/-! ### promises that are kept where no repr is under way: defs that say repr of a list -/
structure FnG (P : Program) (w : World) (K : PySem.W.Frag) (mg : Str → Option Value) (base : Heap) (k : Nat) (f : Addr) (fd : FuncData) (ps : List Str) (sp : Sp) : Prop where
  len : ∀ vs H Q E, sp vs H Q E → vs.length = ps.length
  run : ∀ (A : Around) (outer : List Env) (s : Shared) (H : Hp) (args : Args) (us : List Value) (vs : List V) (Q : VK) (E : XK), A.guards = some [] → Room k A → Env0 P w K mg base A outer s H → BindsTo s fd args (ps.zip us) →
    Vals vs us → sp vs H Q E → codeAny (model P w) A (.call (.ref f) args) (CR CX0 outer P w H s Q E) s
section
variable {P : Program} {w : World} {K : PySem.W.Frag} {mg : Str → Option Value} {base : Heap}
theorem FnG.ofOk {k : Nat} {f : Addr} {fd : FuncData} {ps : List Str} {sp : Sp} (F : FnOk P w K mg base CX0 k f fd ps sp) : FnG P w K mg base k f fd ps sp :=
  ⟨F.len, fun A outer s H args us vs Q E _ => F.run A outer s H args us vs Q E⟩
theorem FnG.mk' {x qual : Str} {st : Stmt} {f : Addr} {fd : FuncData} {N ps : List Str} {k : Nat} {sp : Sp} (F : Fun K x qual st f fd) (S : FnScope N ps (defScope st)) (len : ∀ vs H Q E, sp vs H Q E → vs.length = ps.length)
    (go : ∀ (cdv : Value) (A : Around) (outer : List Env) (s : Shared) (H : Hp) (vs : List V) (Q : VK) (E : XK), A.guards = some [] → Room k (A.deeper (envOfC qual (defScope st) s.heap.objs.size f cdv)) → sp vs H Q E →
      ∃ t, PSs (cxOf CX0 P w K mg base N qual (defScope st) f cdv A outer s H E).nox (defBody st) t ∧ t { nx := fun _ H' => Q .non H', rt := Q } (start N vs) H) : FnG P w K mg base (k + 1) f fd ps sp := by
  obtain ⟨oc, od, kV, doc, pm, an, cdv, ct, osl, rfl, lk, hcd⟩ := F.ex
  refine ⟨len, fun A outer s H args us vs Q E hg hr e0 hb r hsp => ?_⟩
  have hlen := len _ _ _ _ hsp
  have inS : K.In s.heap := e0.mod.kin.keeps fun b o e => (e0.bs b o e).1
  have limS : s.heap.NoLimit := e0.mod.nolimit.keeps fun b o e => (e0.bs b o e).1
  have kinds : ∀ y ∈ ps.zip us, (defScope st).names.lookup y.1 = some .local ∨ ((defScope st).names.lookup y.1 = some .cell ∧ ((cellsFrom (s.heap.objs.size + 1) (defScope st).names []).lookup y.1).isSome = true) := by
    rintro ⟨n, v⟩ hy
    exact (S.par n (List.of_mem_zip hy).1).imp id fun q => ⟨q, PySem.W.cellsFrom_some _ _ _ (.inl q)⟩
  refine codeAny_call_function hr.depth (inS _ _ lk) rfl S.co S.gen rfl (PySem.W.codeRec_of inS hcd) (hb _ _ _ _ ?_)
  refine wpAny_newFunctionEnv_cells S.kind kinds fun env henv s1 x => ?_
  subst henv
  refine ⟨limS.keeps x.toInCall.keep, codeAny_func ?_⟩
  obtain ⟨t, ht, hq⟩ := go cdv A outer s H vs Q E hg (hr.deeper _) hsp
  have I : Inv (cxOf CX0 P w K mg base N qual (defScope st) f cdv A outer s H E) [] (start N vs) H s1 := inv_start S hr.hd e0 hlen r x
  refine wpAny_mono (ht.nox.run [] s1 (start N vs) H _ I hq) (fun fl s' hs => ?_) fun e s' hs => hs
  cases fl with
  | ret u =>
    obtain ⟨v, σ', H', J, rv, q⟩ := hs
    exact ⟨v, H', J.os, J.bare, J.base, J.hok, rv, q⟩
  | next =>
    obtain ⟨σ', H', J, q⟩ := hs
    exact ⟨V.non, H', J.os, J.bare, J.base, J.hok, rfl, q⟩
  | brk => exact hs.elim fun _ z => z.elim fun _ y => y.2.elim
  | cont => exact hs.elim fun _ z => z.elim fun _ y => y.2.elim
end
section
variable {X : Cx} {k : Nat} {f : Addr} {fd : FuncData} {ps : List Str} {sp : Sp} {dvs : List V} {ds : List Value} {E : XK} {x : Str} {p pos : Pos} {e : Expr} {es : List Expr} {t : TA}
theorem pe_callG (hgd : X.A.guards = some []) (F : FnG X.prog X.w X.K X.mg X.base k f fd ps sp) (hr : Room k X.A) (hg : Gl X x) (hm : X.mg x = some (.ref f)) (hk : PySem.W.keepIn X.K (.ref f) = true) (hb : Binds X.K fd ps ds) (hd : Vals dvs ds)
    (hx : Passes CX0 X E) (ha : PA X (e :: es) t) (hdb : (x == ("__debug__" : Str)) = false := by decide) (he : starEach (e :: es) X.env = (false, eval e X.env) :: starEach es X.env := by rfl)
    (hpl : (backTo pos (starEach es X.env)).any (·.1) = false := by rfl) : PE X (.Call (.Name x p) (e :: es) [] pos) (tCall sp dvs E t) := by
  refine ⟨fun pins s σ H Q I h => wpAny_Call_Name_kw (ld_glob I hg hm (PySem.W.callWith_K (h₀ := X.base) I.ok.mod.kin hk (thn (ha.run pos pins s σ H _ I h) fun us s1 ⟨vs, H1, I1, r, q⟩ => ⟨I1.kIn, ?_⟩) he hpl) hdb)⟩
  have r2 : Vals (vs ++ dvs) (us ++ ds) := r.append hd
  have hl : (us ++ ds).length = ps.length := r2.length.symm.trans (F.len _ _ _ _ q)
  refine wpAny_call (codeAny_mono (F.run X.A X.stack s1 H1 ⟨us, []⟩ (us ++ ds) (vs ++ dvs) Q E hgd hr I1.env0 (hb s1 us I1.kIn hl) r2 q) fun rr s' hq => ?_)
  cases rr with
  | error er => exact hx pins σ H1 s1 er s' I1 hq
  | ok fl => cases fl <;> first | exact I1.after hq | exact False.elim hq
/-- repr of data -/
def rReprD (K : PySem.W.Frag) : List V → Hp → VK → Prop := fun xs H Q => ∃ (v : V) (d : PyData), xs = [v] ∧ Dp K H v d ∧ d.showable = true ∧ d.hasDict = false ∧ d.depth ≤ 40 ∧ d.shown.length ≤ sizeLine ∧ Q (.str d.shown) H
theorem call_reprD (hgd : X.A.guards = some []) (hu : X.A.units + 64 < cLine) : CallR X (.builtin "repr") (rReprD X.K) := by
  intro pins s σ H xs us Q I r h
  obtain ⟨v, d, rfl, hd, hs, hn, hdp, hz, q⟩ := h
  obtain ⟨u, rfl, ru⟩ := vals1 r
  obtain ⟨as, rd⟩ := Dp.reads I d v u hd ru
  have fin : ∀ h' t tk, (∀ b o, s.heap.get? b = some o → h'.get? b = some o) → EP X pins σ Q (.str d.shown t) { s with heap := h', toks := tk } := fun h' t tk kp => ⟨.str d.shown, H, I.kept kp, ⟨t, rfl⟩, q⟩
  have hsz := hz
  cases rd with
  | none =>
    simp only [PyData.shown] at fin
    exact PySem.P.repr_of_none (fin s.heap _ _ fun _ _ z => z)
  | bool b =>
    simp only [PyData.shown] at fin
    exact PySem.P.repr_of_bool (fin s.heap _ _ fun _ _ z => z)
  | int i t =>
    simp only [PyData.shown] at fin
    exact PySem.P.repr_of_int (by simpa [PyData.showable] using hs) (fin s.heap _ _ fun _ _ z => z)
  | str x t =>
    simp only [PyData.shown] at fin hsz
    exact PySem.P.repr_of_str (fin s.heap _ _ fun _ _ z => z) hsz
  | list h1 h2 h3 h4 => exact repr_of_reads' (.list h1 h2 h3 h4) hs (PyData.noDict_hsm hn) hgd (by omega) (fun _ _ z => z) fin hz
  | tuple h1 h2 h3 h4 => exact repr_of_reads' (.tuple h1 h2 h3 h4) hs (PyData.noDict_hsm hn) hgd (by omega) (fun _ _ z => z) fin hz
  | dict h1 h2 h3 h4 h5 => simp [PyData.hasDict] at hn
end
end UL
set_option Elab.async false
set_option linter.all false
set_option maxRecDepth 100000
set_option maxHeartbeats 4000000
namespace UL
open PySem PySem.Spec PyProof.Rows L2
/-! ### the law's own call, by a promise of the kind FnG -/
section
variable {P : Program} {w : World} {K : PySem.W.Frag} {mg mb : Str → Option Value} {k : Nat} {fa a : Addr} {fd : FuncData} {x : Str} {sp : Sp} {s₁ : Shared} {vs : List Value} {ns : List Int}
/-- from an abstract heap that tracks the script alone, if anything -/
theorem call_from {H : Hp} (KX : K.In s₁.heap) (hns : s₁.heap.Ns mainGlobals mg) (hb : s₁.heap.Ns builtinsNs mb) (hbb : ∀ x : Str, x ≠ "__name__" → mb x = bootBuiltins x) (hlim : s₁.heap.NoLimit) (hg : s₁.gens = #[])
    (ha : s₁.heap.get? a = some { cls := .type "list", data := .seq vs.toArray }) (hr : Room k callerA) (F : ∀ base : Heap, K.In base → base.Ns mainGlobals mg → FnG P w K mg base k fa fd [x] sp) (hbind : ∀ (s : Shared) (u : Value), BindsTo s fd ⟨[u], []⟩ [(x, u)])
    (hO : Only H) (hok : HOk P w H s₁.heap) (only : ∀ b, H b ≠ none → b = a) (out : H a ≠ none → K.lookup a = none) (hsp : sp [.ref a] H (fun v _ => v = .bl true) fun _ _ _ => False) :
    codeAny (model P w) callerA (.call (.ref fa) ⟨[.ref a], []⟩) (fun r s' => r = .ok (.ret (.bool true)) ∧ OldK s₁.heap s'.heap ∧ s'.os = s₁.os ∧ AllBare s'.gens) s₁ := by
  -- what the script's address bears is no dict and no part of the written text
  have hid : ∀ {b : Addr} {o : Obj}, s₁.heap.get? b = some o → (b = a → H a = none) → (hidT s₁.heap H).get? b = some o := fun {b o} e n => hidT_get e (by
    cases q : H b with
    | none => rfl
    | some u =>
      have z : b = a := only b (fun y => by rw [y] at q; cases q)
      rw [z, n z] at q
      cases q)
  have hns' : ∀ {b : Addr} {m : Str → Option Value}, s₁.heap.Ns b m → (hidT s₁.heap H).Ns b m := fun {b m} ⟨o, es, ep, e, d, r⟩ => ⟨o, es, ep, hid e (fun z => by
    subst z
    rw [ha] at e
    cases e
    cases d), d, r⟩
  have hK' : K.In (hidT s₁.heap H) := fun b o e => hid (KX b o e) (fun z => by
    cases q : H a with
    | none => rfl
    | some u =>
      have y := out (fun t => by rw [t] at q; cases q)
      rw [z, y] at e
      cases e)
  have hM : Mod K mg (hidT s₁.heap H) := ⟨hK', hns' hns, ⟨mb, hns' hb, hbb⟩, let ⟨mc, h1, h2⟩ := hlim; ⟨mc, hns' h1, h2⟩⟩
  have e0 : Env0 P w K mg (hidT s₁.heap H) callerA [] s₁ H := ⟨rfl, hM, fun b o e => of_hidT e, Nat.le_of_eq (hidT_size _ _), trivial, fun b z => (nomatch (show b ∈ ([] : List Addr) from z)), hok, .of_eq hg⟩
  refine codeAny_mono ((F _ hK' (hns' hns)).run callerA [] s₁ H ⟨[.ref a], []⟩ [.ref a] [.ref a] _ _ rfl hr e0 (hbind s₁ (.ref a)) (.cons rfl .nil) hsp) fun r s' h => ?_
  match r, h with
  | .ok (.ret u), ⟨v, H', os, bare, un, hok', r', q⟩ =>
    cases (show v = .bl true from q)
    cases (show u = Value.bool true from r')
    refine ⟨rfl, OldK.of_keep fun b o e => ?_, os, bare⟩
    rcases hO b with z | ⟨ob, xs, z⟩
    · exact un.keep b o e z (fun y => nomatch (show b ∈ ([] : List Addr) from y)) (fun y => nomatch (show b ∈ ([] : List Addr) from y))
    · obtain ⟨e1, _⟩ := hok b _ z
      obtain ⟨e2, _⟩ := hok' b _ (un.frzs b ob _ z)
      rw [e] at e1
      cases e1
      exact e2
theorem law_callG (KX : K.In s₁.heap) (hns : s₁.heap.Ns mainGlobals mg) (hb : s₁.heap.Ns builtinsNs mb) (hbb : ∀ x : Str, x ≠ "__name__" → mb x = bootBuiltins x) (hlim : s₁.heap.NoLimit) (hg : s₁.gens = #[])
    (ha : s₁.heap.get? a = some { cls := .type "list", data := .seq vs.toArray }) (hi : IntsAre vs ns) (hl : ns.length ≤ sizeLine) (hr : Room k callerA) (F : ∀ base : Heap, K.In base → base.Ns mainGlobals mg → FnG P w K mg base k fa fd [x] sp)
    (hbind : ∀ (s : Shared) (u : Value), BindsTo s fd ⟨[u], []⟩ [(x, u)]) (hsp : ∀ H : Hp, Only H → SqL K H a (ns.map V.int) → sp [.ref a] H (fun v _ => v = .bl true) fun _ _ _ => False) :
    codeAny (model P w) callerA (.call (.ref fa) ⟨[.ref a], []⟩) (fun r s' => r = .ok (.ret (.bool true)) ∧ OldK s₁.heap s'.heap ∧ s'.os = s₁.os ∧ AllBare s'.gens) s₁ := by
  have rv := vals_ints hi
  have lenV := hi.length
  cases hk : K.lookup a with
  | some o =>
    obtain rfl : _ = o := Option.some.inj (ha.symm.trans (KX a o hk))
    have hO : Only fun _ => none := fun _ => .inl rfl
    exact call_from (H := fun _ => none) KX hns hb hbb hlim hg ha hr F hbind hO (fun b u z => nomatch (show (none : Option HO) = some u from z)) (fun b z => absurd rfl z) (fun z => absurd rfl z)
      (hsp _ hO (.inr ⟨_, vs.toArray, _, hk, rfl, rfl, rfl, by rw [List.size_toArray, lenV]; exact hl, by simpa using rv⟩))
  | none =>
    let H0 : Hp := fun b => if b = a then some (.frz { cls := .type "list", data := .seq vs.toArray } (.lst (ns.map V.int))) else none
    have at_ : H0 a = some (.frz { cls := .type "list", data := .seq vs.toArray } (.lst (ns.map V.int))) := if_pos rfl
    have no_ : ∀ b, b ≠ a → H0 b = none := fun b z => if_neg z
    have hO : Only H0 := fun b => if z : b = a then .inr ⟨{ cls := .type "list", data := .seq vs.toArray }, ns.map V.int, z ▸ at_⟩ else .inl (no_ b z)
    refine call_from (H := H0) KX hns hb hbb hlim hg ha hr F hbind hO (fun b u z => ?_) (fun b z => Decidable.byContradiction fun y => z (no_ b y)) (fun _ => hk) (hsp _ hO (.inl (.inr ⟨_, at_⟩)))
    by_cases y : b = a
    · subst y
      rw [at_] at z
      cases z
      exact ⟨ha, by rw [List.length_map]; exact hl, vs, _, rv, ha⟩
    · rw [no_ b y] at z
      cases z
end
theorem walkG {l : PySem.W.OpenLaw} {n k : Nat} {q : Program} {loose : List Str} {XP : (Str → Option Value) → Heap → Prop} {YP : World → Heap → Prop} {d : DefRec} {K : Params → PySem.W.Frag} {sp : World → Sp} {x : Str}
    (hn : l.most = some n) (hn2 : n ≤ sizeLine) (hdf : d.params.defaults = []) (hr : Room k callerA) (hY : ∀ (w : World) (h : Heap), YP w h → (K w.params).In h)
    (F : ∀ (w : World) (mg : Str → Option Value) (fa : Addr) (h : Heap), (K w.params).In h → h.Ns mainGlobals mg → mg d.name = some (.ref fa) →
      ∃ fd : FuncData, (∀ (s : Shared) (u : Value), BindsTo s fd ⟨[u], []⟩ [(x, u)]) ∧ ∀ base : Heap, (K w.params).In base → base.Ns mainGlobals mg → FnG l.prog w (K w.params) mg base k fa fd [x] (sp w))
    (hsp : ∀ (w : World) (H : Hp) (a : Addr) (ns : List Int), ns.length ≤ n → Only H → SqL (K w.params) H a (ns.map V.int) → sp w [.ref a] H (fun v _ => v = .bl true) fun _ _ _ => False) :
    PySem.W.WalkO q loose XP YP l.row.toRowW d [] (fun f vs => PySem.call f vs) := by
  refine Att.attach_call hn hdf fun w s₀ s₁ mg mb fa o pm cd doc a vs ns G Y _ _ _ hmg hobj hints hlen hg => ?_
  have KX := hY w _ Y
  obtain ⟨fd, hb, hF⟩ := F w mg fa _ KX G.T.g hmg
  exact law_callG KX G.T.g G.T.b G.T.builtins G.T.nolimit hg hobj hints (Nat.le_trans hlen hn2) hr hF hb fun H hO hS => hsp w H a ns hlen hO hS
end UL
set_option Elab.async false
set_option linter.all false
set_option maxRecDepth 100000
set_option maxHeartbeats 4000000
namespace UL
open PySem PySem.Spec PyProof.Rows L2
/-! ### what a caller knows of a def, a method, a property, a class's maker: its promise, nothing else -/
section
variable (P : Program) (w : World) (K : PySem.W.Frag) (mg : Str → Option Value) (base : Heap)
/-- the module's def x keeps sp, at level k -/
def Cal (k : Nat) (x : Str) (sp : Sp) : Prop := ∃ f fd ps, FnOk P w K mg base CX0 k f fd ps sp ∧ PySem.W.keepIn K (.ref f) = true ∧ Binds K fd ps [] ∧ mg x = some (.ref f)
def CalG (k : Nat) (x : Str) (sp : Sp) : Prop := ∃ f fd ps, FnG P w K mg base k f fd ps sp ∧ PySem.W.keepIn K (.ref f) = true ∧ Binds K fd ps [] ∧ mg x = some (.ref f)
/-- the method m of the class at C -/
def CalM (k : Nat) (C : Addr) (m : Str) (sp : Sp) : Prop := ∃ f fd ps, FnOk P w K mg base CX0 k f fd ps sp ∧ Cls K C ∧ Meth K C m f ∧ Binds K fd ps []
/-- .. called with the keywords ks, no positional arguments but self -/
def CalMK (k : Nat) (C : Addr) (m : Str) (ks : List Str) (gV : List V → List V → List V) (sp : Sp) : Prop := ∃ f fd ps g, FnOk P w K mg base CX0 k f fd ps sp ∧ Cls K C ∧ Meth K C m f ∧ KBn K fd ps 1 ks g gV
/-- the property m of the class at C -/
def CalP (k : Nat) (C : Addr) (m : Str) (sp : Sp) : Prop := ∃ p f fd ps, FnOk P w K mg base CX0 k f fd ps sp ∧ Cls K C ∧ PropOf K C m p f ∧ Binds K fd ps []
/-- the class x, at C, made by its __init__, the defaults dvs behind what is written -/
def Mak (k : Nat) (x : Str) (C : Addr) (dvs : List V) (sp : Sp) : Prop := ∃ f fd ps ds, FnOk P w K mg base CX0 k f fd ps sp ∧ Mk K C f ∧ mg x = some (.ref C) ∧ Binds K fd ps ds ∧ Vals dvs ds
/-- .. with the keywords ks alone -/
def MakK (k : Nat) (x : Str) (C : Addr) (ks : List Str) (gV : List V → List V → List V) (sp : Sp) : Prop := ∃ f fd ps g, FnOk P w K mg base CX0 k f fd ps sp ∧ Mk K C f ∧ mg x = some (.ref C) ∧ KBn K fd ps 1 ks g gV
/-- the special method m of the class at C, asked by an operator or a built-in -/
def CalS (k : Nat) (C : Addr) (m : Str) (sp : Sp) : Prop := ∃ f, FnR P w K mg base CX0 k f sp ∧ PySem.W.findIn K (.ref C) m = some (some (.ref f)) ∧ PySem.W.isFn K (.ref f) = true
/-- the static method m of the class x at C -/
def CalT (k : Nat) (C : Addr) (m : Str) (sp : Sp) : Prop := ∃ p f fd ps mc, FnOk P w K mg base CX0 k f fd ps sp ∧ SMet K C mc m p f ∧ Binds K fd ps []
def CalTK (k : Nat) (C : Addr) (m : Str) (ks : List Str) (gV : List V → List V → List V) (sp : Sp) : Prop := ∃ p f fd ps mc g, FnOk P w K mg base CX0 k f fd ps sp ∧ SMet K C mc m p f ∧ KBn K fd ps 0 ks g gV
end
section
variable {X : Cx} {k j : Nat} {x m : Str} {C : Addr} {sp : Sp} {dvs : List V} {e o : Expr} {es : List Expr} {kws : List Keyword} {ks : List Str} {gV : List V → List V → List V} {t tk : TA} {ta : TE} {p pos apos : Pos}
theorem pe_c (c : Cal X.prog X.w X.K X.mg X.base k x sp) (hr : Room j X.A) (hk : k ≤ j) (hg : Gl X x) (ha : PA X (e :: es) t) (hdb : (x == ("__debug__" : Str)) = false := by decide)
    (he : starEach (e :: es) X.env = (false, eval e X.env) :: starEach es X.env := by rfl) (hpl : (backTo pos (starEach es X.env)).any (·.1) = false := by rfl) : PE X (.Call (.Name x p) (e :: es) [] pos) (tCall sp [] E0 t) := by
  obtain ⟨f, fd, ps, F, kp, b, g⟩ := c
  exact pe_call F (hr.mono hk) hg g kp b .nil pass0 ha hdb he hpl
theorem pe_cG (hgd : X.A.guards = some []) (c : CalG X.prog X.w X.K X.mg X.base k x sp) (hr : Room j X.A) (hk : k ≤ j) (hg : Gl X x) (ha : PA X (e :: es) t) (hdb : (x == ("__debug__" : Str)) = false := by decide)
    (he : starEach (e :: es) X.env = (false, eval e X.env) :: starEach es X.env := by rfl) (hpl : (backTo pos (starEach es X.env)).any (·.1) = false := by rfl) : PE X (.Call (.Name x p) (e :: es) [] pos) (tCall sp [] E0 t) := by
  obtain ⟨f, fd, ps, F, kp, b, g⟩ := c
  exact pe_callG hgd F (hr.mono hk) hg g kp b .nil pass0 ha hdb he hpl
theorem pe_m {pl : Sem Bool} (he : PE X o ta) (c : CalM X.prog X.w X.K X.mg X.base k C m sp) (hr : Room j X.A) (hk : k ≤ j) (ha : PA X (e :: es) t)
    (hst : starEach (e :: es) X.env = (false, eval e X.env) :: starEach es X.env := by rfl) (hpl : (backTo pos (starEach es X.env)).any (·.1) = false := by rfl)
    (ht : eval (.Call (.Attribute o m apos) (e :: es) [] pos) X.env = (do
      let ov ← eval o X.env
      standAt apos.atName
      let (fv, fi) ← holding [ov] (getMethod ov m pl)
      callWith pos fv fi (backTo pos (starEach (e :: es) X.env)) (backToKw pos (keywordEach [] X.env))) := by rfl) :
    PE X (.Call (.Attribute o m apos) (e :: es) [] pos) (tMeth C m sp [] E0 ta t) := by
  obtain ⟨f, fd, ps, F, cl, mt, b⟩ := c
  exact pe_meth he cl mt F (hr.mono hk) b .nil pass0 ha hst hpl ht
/-- o.m(k = v, ..) -/
def tMethK (C : Addr) (m : Str) (n : Nat) (gV : List V → List V → List V) (sp : Sp) (ta : TE) (tk : TA) : TE := fun σ H Q => ta σ H fun x H1 => ∃ a dx fs, x = .ref a ∧ H1 a = some (.ins C dx fs) ∧ fs.lookup m = none ∧ tk σ H1 fun zs H2 => zs.length = n ∧ sp (gV [x] zs) H2 Q E0
theorem pe_mK {pl : Sem Bool} (he : PE X o ta) (c : CalMK X.prog X.w X.K X.mg X.base k C m ks gV sp) (hr : Room j X.A) (hk : k ≤ j) (hkw : PK X kws tk)
    (hall : (backToKw pos (keywordEach kws X.env)).all (·.1.isSome) = true := by rfl) (hks : (backToKw pos (keywordEach kws X.env)).filterMap (·.1) = ks := by rfl)
    (hpl : ((backTo pos (starEach [] X.env)).any (·.1) || (backToKw pos (keywordEach kws X.env)).any (·.1.isNone)) = false := by rfl)
    (ht : eval (.Call (.Attribute o m apos) [] kws pos) X.env = (do
      let ov ← eval o X.env
      standAt apos.atName
      let (fv, fi) ← holding [ov] (getMethod ov m pl)
      callWith pos fv fi (backTo pos (starEach [] X.env)) (backToKw pos (keywordEach kws X.env))) := by rfl) :
    PE X (.Call (.Attribute o m apos) [] kws pos) (tMethK C m ks.length gV sp ta tk) := by
  obtain ⟨f, fd, ps, g, F, cl, mt, b⟩ := c
  refine ⟨fun pins s σ H Q I h => ?_⟩
  refine PySem.W.methodCall_KW (pl := pl) (thn (he.run pins s σ H _ I h) fun u s1 ⟨x, H1, I1, rx, a, dx, fs, ex, ea, l, q⟩ => ?_) ht
  subst ex
  obtain rfl : u = Value.ref a := rx
  refine getmeth_ok I1 ea cl mt l ?_
  refine PySem.W.callWith_KW0 (first := [.ref a]) (h₀ := X.base) I.ok.mod.kin mt.kp hall ?_ hpl
  refine thn (hkw.run pos pins s1 σ H1 _ I1 q) fun ws s3 ⟨zs, H2, I3, rz, l2, q2⟩ => ⟨I3.kIn, ?_⟩
  rw [hks]
  exact run_fnN (us := [.ref a]) (vs := [.ref a]) F (hr.mono hk) b pass0 I3 (.cons rfl .nil) rz rfl l2 q2
theorem pe_p (he : PE X o ta) (c : CalP X.prog X.w X.K X.mg X.base k C m sp) (hr : Room j X.A) (hk : k + 1 ≤ j) (hab : attributeBase o m X.env (eval o X.env) = eval o X.env) : PE X (.Attribute o m pos) (tProp C sp [] E0 ta) := by
  obtain ⟨q, f, fd, ps, F, cl, pr, b⟩ := c
  exact pe_prop he cl pr F (hr.mono hk) b .nil pass0 hab
theorem pe_n (c : Mak X.prog X.w X.K X.mg X.base k x C dvs sp) (hr : Room j X.A) (hk : k + 1 ≤ j) (hg : Gl X x) (ha : PA X (e :: es) t) (hdb : (x == ("__debug__" : Str)) = false := by decide)
    (he : starEach (e :: es) X.env = (false, eval e X.env) :: starEach es X.env := by rfl) (hpl : (backTo pos (starEach es X.env)).any (·.1) = false := by rfl) : PE X (.Call (.Name x p) (e :: es) [] pos) (tMake C sp dvs E0 t) := by
  obtain ⟨f, fd, ps, ds, F, M, g, b, v⟩ := c
  exact pe_make M F (hr.mono hk) hg g b v pass0 ha hdb he hpl
theorem pe_n0 (c : Mak X.prog X.w X.K X.mg X.base k x C dvs sp) (hr : Room j X.A) (hk : k + 1 ≤ j) (hg : Gl X x) (hdb : (x == ("__debug__" : Str)) = false := by decide) : PE X (.Call (.Name x p) [] [] pos) (tMake C sp dvs E0 tNil) := by
  obtain ⟨f, fd, ps, ds, F, M, g, b, v⟩ := c
  exact pe_make0 M F (hr.mono hk) hg g b v pass0 hdb
theorem pe_nK (c : MakK X.prog X.w X.K X.mg X.base k x C ks gV sp) (hr : Room j X.A) (hk : k + 1 ≤ j) (hg : Gl X x) (hkw : PK X kws tk)
    (hall : (backToKw pos (keywordEach kws X.env)).all (·.1.isSome) = true := by rfl) (hks : (backToKw pos (keywordEach kws X.env)).filterMap (·.1) = ks := by rfl) (hdb : (x == ("__debug__" : Str)) = false := by decide)
    (hpl : ((backTo pos (starEach [] X.env)).any (·.1) || (backToKw pos (keywordEach kws X.env)).any (·.1.isNone)) = false := by rfl) :
    PE X (.Call (.Name x p) [] kws pos) (tMakeK C 0 ks.length sp gV E0 tNil tk) := by
  obtain ⟨f, fd, ps, gg, F, M, g, b⟩ := c
  exact pe_makeK0 M F (hr.mono hk) hg g b pass0 hkw hall hks hdb hpl
theorem op_eqS (c : CalS X.prog X.w X.K X.mg X.base k C "__eq__" sp) (hr : Room j X.A) (hk : k ≤ j) : OpR X (compareOp .Eq) (rEqI X.K C sp E0) := by
  obtain ⟨f, F, h1, h2⟩ := c
  exact op_eqI h1 h2 F (hr.mono hk) pass0
theorem call_reprS (c : CalS X.prog X.w X.K X.mg X.base k C "__repr__" sp) (hr : Room j X.A) (hk : k + 1 ≤ j) : CallR X (.builtin "repr") (rShowI C sp E0) := by
  obtain ⟨f, F, h1, h2⟩ := c
  exact call_reprI h1 h2 F (hr.mono hk) pass0
theorem call_strS (c : CalS X.prog X.w X.K X.mg X.base k C "__str__" sp) (hr : Room j X.A) (hk : k + 2 ≤ j) : CallR X (.type "str") (rShowI C sp E0) := by
  obtain ⟨f, F, h1, h2⟩ := c
  exact call_strI h1 h2 F (hr.mono hk) pass0
theorem pe_t {pl : Sem Bool} (he : PE X o ta) (c : CalT X.prog X.w X.K X.mg X.base k C m sp) (hr : Room j X.A) (hk : k ≤ j) (ha : PA X (e :: es) t)
    (hst : starEach (e :: es) X.env = (false, eval e X.env) :: starEach es X.env := by rfl) (hpl : (backTo pos (starEach es X.env)).any (·.1) = false := by rfl)
    (ht : eval (.Call (.Attribute o m apos) (e :: es) [] pos) X.env = (do
      let ov ← eval o X.env
      standAt apos.atName
      let (fv, fi) ← holding [ov] (getMethod ov m pl)
      callWith pos fv fi (backTo pos (starEach (e :: es) X.env)) (backToKw pos (keywordEach [] X.env))) := by rfl) :
    PE X (.Call (.Attribute o m apos) (e :: es) [] pos) (tSMeth C sp [] E0 ta t) := by
  obtain ⟨q, f, fd, ps, mc, F, s, b⟩ := c
  exact pe_smeth he s F (hr.mono hk) b .nil pass0 ha hst hpl ht
theorem pe_tK {pl : Sem Bool} (he : PE X o ta) (c : CalTK X.prog X.w X.K X.mg X.base k C m ks gV sp) (hr : Room j X.A) (hk : k ≤ j) (hkw : PK X kws tk)
    (hall : (backToKw pos (keywordEach kws X.env)).all (·.1.isSome) = true := by rfl) (hks : (backToKw pos (keywordEach kws X.env)).filterMap (·.1) = ks := by rfl)
    (hpl : ((backTo pos (starEach [] X.env)).any (·.1) || (backToKw pos (keywordEach kws X.env)).any (·.1.isNone)) = false := by rfl)
    (ht : eval (.Call (.Attribute o m apos) [] kws pos) X.env = (do
      let ov ← eval o X.env
      standAt apos.atName
      let (fv, fi) ← holding [ov] (getMethod ov m pl)
      callWith pos fv fi (backTo pos (starEach [] X.env)) (backToKw pos (keywordEach kws X.env))) := by rfl) :
    PE X (.Call (.Attribute o m apos) [] kws pos) (tSMethK C ks.length sp gV E0 ta tk) := by
  obtain ⟨q, f, fd, ps, mc, g, F, s, b⟩ := c
  exact pe_smethK he s F (hr.mono hk) b pass0 hkw hall hks hpl ht
end
end UL
set_option Elab.async false
set_option linter.all false
set_option maxRecDepth 100000
set_option maxHeartbeats 4000000
namespace UL
open PySem L2
/-! ### small facts of numbers, texts, lists -/
theorem log_small {i : Int} (h : i.natAbs < 2 ^ 64) : i.natAbs.log2 < 1920 := by
  by_cases c : i.natAbs = 0
  · rw [c]
    decide
  · exact Nat.lt_of_lt_of_le ((Nat.log2_lt c).mpr h) (by decide)
theorem eqV_self_str (x : Str) : eqV (.str x) (.str x) = true := by simp [eqV]
theorem eqV_self_int (x : Int) : eqV (.int x) (.int x) = true := by simp [eqV]
theorem inV_mem {v : V} {xs : List V} (h : v ∈ xs) (e : eqV v v = true) : inV v xs = true := List.any_eq_true.mpr ⟨v, h, e⟩
theorem line_ge {n : Nat} (h : n ≤ 16000000) : n ≤ sizeLine := by
  rw [sizeLine_eq]
  omega
theorem line_gt {n : Nat} (h : n ≤ 16000000) : n < sizeLine := by
  rw [sizeLine_eq]
  omega
end UL
set_option Elab.async false
set_option linter.all false
set_option maxRecDepth 100000
set_option maxHeartbeats 4000000
namespace UL
open PySem L2
/-! ### data: shapes, equality -/
theorem shaped_of {d : PyData} (h : d.canLay0 = true) (g : d.depth ≤ 64) : SeqAt.shaped d = true := by
  show (d.canLay0 && decide (d.depth ≤ 64)) = true
  rw [h, decide_eq_true g]
  rfl
theorem lay_all : ∀ {ds : List PyData}, (∀ d ∈ ds, d.canLay0 = true) → PyData.canLayAll0 ds = true
  | [], _ => by simp [PyData.canLayAll0]
  | d :: ds, h => by simp [PyData.canLayAll0, h d List.mem_cons_self, lay_all fun e he => h e (List.mem_cons_of_mem _ he)]
theorem depth_all {k : Nat} : ∀ {ds : List PyData}, (∀ d ∈ ds, d.depth ≤ k) → PyData.depthAll ds ≤ k
  | [], _ => by simp [PyData.depthAll]
  | d :: ds, h => by
    simp only [PyData.depthAll]
    have h1 := h d List.mem_cons_self
    have h2 := depth_all (ds := ds) fun e he => h e (List.mem_cons_of_mem _ he)
    omega
theorem shaped_list {ds : List PyData} {k : Nat} (h : ∀ d ∈ ds, d.canLay0 = true) (g : ∀ d ∈ ds, d.depth ≤ k) (hk : k ≤ 60) : SeqAt.shaped (.list ds) = true :=
  shaped_of (by simpa only [PyData.canLay0] using lay_all h) (by have := depth_all g; simp only [PyData.depth]; omega)
theorem shaped_tuple {ds : List PyData} {k : Nat} (h : ∀ d ∈ ds, d.canLay0 = true) (g : ∀ d ∈ ds, d.depth ≤ k) (hk : k ≤ 60) : SeqAt.shaped (.tuple ds) = true :=
  shaped_of (by simpa only [PyData.canLay0] using lay_all h) (by have := depth_all g; simp only [PyData.depth]; omega)
/-- a pair of an int and a text, as data -/
def pairD (x : Int × Str) : PyData := .tuple [.int x.1, .str x.2]
theorem pairD_eqv (x y : Int × Str) : PyData.eqv (pairD x) (pairD y) = decide (x = y) := by
  obtain ⟨a, b⟩ := x
  obtain ⟨c, d⟩ := y
  have e : PyData.eqv (pairD (a, b)) (pairD (c, d)) = ((a == c) && ((b == d) && true)) := by simp only [pairD, PyData.eqv, PyData.eqvAll]
  rw [e]
  by_cases h1 : a = c <;> by_cases h2 : b = d <;> simp [h1, h2]
theorem pairD_depth (x : Int × Str) : (pairD x).depth ≤ 1 := by simp [pairD, PyData.depth, PyData.depthAll]
theorem pairD_lay {x : Int × Str} (h : (PyData.str x.2).canLay0 = true) : (pairD x).canLay0 = true := by
  simp only [pairD, PyData.canLay0, PyData.canLayAll0]
  simp only [PyData.canLay0] at h
  simp [h]
/-- a list of such pairs at l -/
def PairsAt (H : Hp) (l : Addr) (xs : List (Int × Str)) : Prop := ∃ ps : List Addr, H l = some (.lst (ps.map V.ref)) ∧ ps.length = xs.length ∧
  ∀ (j : Nat) (a : Addr) (x : Int × Str), ps[j]? = some a → xs[j]? = some x → H a = some (.tup [.int x.1, .str x.2])
theorem PairsAt.same {H H' : Hp} {l : Addr} {xs : List (Int × Str)} (h : PairsAt H l xs) (s : L2.Same H H') : PairsAt H' l xs := by
  obtain ⟨ps, h1, h2, h3⟩ := h
  exact ⟨ps, s _ _ h1, h2, fun j a x e1 e2 => s _ _ (h3 j a x e1 e2)⟩
theorem dpAll_at {K : PySem.W.Frag} {H : Hp} : ∀ {vs : List V} {ds : List PyData}, vs.length = ds.length → (∀ (j : Nat) v d, vs[j]? = some v → ds[j]? = some d → Dp K H v d) → DpAll K H vs ds
  | [], [], _, _ => .nil
  | v :: vs, d :: ds, hl, h => .cons (h 0 v d rfl rfl) (dpAll_at (by simpa using hl) fun j a b e1 e2 => h (j + 1) a b (by simpa using e1) (by simpa using e2))
theorem dp_pair {K : PySem.W.Frag} {H : Hp} {a : Addr} {x : Int × Str} (h : H a = some (.tup [.int x.1, .str x.2])) : Dp K H (.ref a) (pairD x) := .tup (SqT.of h) (.cons (.int _) (.cons (.str _) .nil))
theorem PairsAt.dp {K : PySem.W.Frag} {H : Hp} {l : Addr} {xs : List (Int × Str)} (h : PairsAt H l xs) : Dp K H (.ref l) (.list (xs.map pairD)) := by
  obtain ⟨ps, h1, h2, h3⟩ := h
  refine .lst (SqL.of h1) (dpAll_at (by rw [List.length_map, List.length_map, h2]) fun j v d e1 e2 => ?_)
  rw [List.getElem?_map] at e1 e2
  obtain ⟨a, ea, rfl⟩ := Option.map_eq_some_iff.mp e1
  obtain ⟨x, ex, rfl⟩ := Option.map_eq_some_iff.mp e2
  exact dp_pair (h3 j a x ea ex)
theorem any_pairs (xs : List (Int × Str)) (x : Int × Str) : ((xs.map pairD).any fun z => PyData.eqv z (pairD x)) = decide (x ∈ xs) := by
  rw [List.any_map]
  rw [Bool.eq_iff_iff, List.any_eq_true, decide_eq_true_iff]
  constructor
  · rintro ⟨y, hy, e⟩
    have e' : PyData.eqv (pairD y) (pairD x) = true := e
    rw [pairD_eqv] at e'
    rw [← of_decide_eq_true e']
    exact hy
  · intro h
    refine ⟨x, h, ?_⟩
    show PyData.eqv (pairD x) (pairD x) = true
    rw [pairD_eqv]
    exact decide_eq_true rfl
/-- ints as data -/
theorem dp_ints {K : PySem.W.Frag} {H : Hp} : ∀ ns : List Int, DpAll K H (ns.map V.int) (ns.map PyData.int)
  | [] => .nil
  | n :: ns => .cons (.int n) (dp_ints ns)
theorem dp_bls {K : PySem.W.Frag} {H : Hp} : ∀ bs : List Bool, DpAll K H (bs.map V.bl) (bs.map PyData.bool)
  | [] => .nil
  | n :: ns => .cons (.bl n) (dp_bls ns)
end UL
set_option Elab.async false
set_option linter.all false
set_option maxRecDepth 100000
set_option maxHeartbeats 4000000
namespace UL
open PySem PySem.Spec PyProof.Rows L2
/-! ### from the facts that the top has written to what a caller knows -/
section
variable {P : Program} {w : World} {K : PySem.W.Frag} {mg : Str → Option Value} {base : Heap}
/-- a def without defaults, called with the keywords ks behind n values -/
theorem Fun.kbn {x qual : Str} {st : Stmt} {f : Addr} {fd : FuncData} {ps : List Str} (F : Fun K x qual st f fd) (n : Nat) (ks : List Str) (g : {α : Type} → List α → List α → List α)
    (hrel : ∀ {vs zs : List V} {us ws : List Value}, Vals vs us → Vals zs ws → Vals (g vs zs) (g us ws))
    (h : ∀ (kV doc pm : Value) (an : Option Addr) (cdv ct : Value) (us ws : List Value), us.length = n → ws.length = ks.length → bindArgs (PySem.W.fnOf x qual (defArgs st) (defBody st) (defScope st) .none kV doc pm an cdv ct) ⟨us, ks.zip ws⟩ = pure (ps.zip (g us ws))) :
    KBn K fd ps n ks (fun us ws => g us ws) (fun vs zs => g vs zs) := by
  obtain ⟨oc, od, kV, doc, pm, an, cdv, ct, osl, rfl, lk, hcd⟩ := F.ex
  exact ⟨fun s us ws _ l1 l2 => .of_eq (h kV doc pm an cdv ct us ws l1 l2), fun r1 r2 => hrel r1 r2⟩
theorem vals_app {vs zs : List V} {us ws : List Value} (a : Vals vs us) (b : Vals zs ws) : Vals (vs ++ zs) (us ++ ws) := a.append b
theorem vals_rev {zs : List V} {ws : List Value} (b : Vals zs ws) : Vals zs.reverse ws.reverse := by
  induction b with
  | nil => exact .nil
  | cons r _ ih =>
    rw [List.reverse_cons, List.reverse_cons]
    exact ih.append (.cons r .nil)
theorem vals_apprev {vs zs : List V} {us ws : List Value} (a : Vals vs us) (b : Vals zs ws) : Vals (vs ++ zs.reverse) (us ++ ws.reverse) := a.append (vals_rev b)
/-- a built-in class and an own one -/
theorem kt_of {T : String} {C : Addr} (h1 : PySem.W.isClsIn K C = true) (h2 : PySem.W.typeIn K (.ref C) = some (.type "type")) (h3 : PySem.W.subIn K (.type T) (.ref C) = some false) :
    PySem.W.kitOne K (.type T) (.ref C) = some false ∧ PySem.W.notFirst K C (.type T) = true := by
  constructor
  · unfold PySem.W.kitOne PySem.W.kitCls
    rw [if_neg (by intro z; cases (show false = true from z))]
    dsimp only
    rw [if_pos (by rw [h2]; simp [show (PySem.W.clsIn K C).isSome = true from h1])]
    exact h3
  · unfold PySem.W.notFirst
    rw [h3]
    simp
end
end UL
set_option Elab.async false
set_option linter.all false
set_option maxRecDepth 100000
set_option maxHeartbeats 4000000
namespace PySem
open Sem (wp)
theorem UL_meets_enum1 {v : Value} {o : Obj} {H : Heap → Prop} (B : Begins v o H) :
    Meets (Builtin.«enumerate.__new__» ⟨[.type "enumerate", v], []⟩) (fun _ R s => H s.heap ∧
      R (.ok (.ret (.ref (s.heap.push o).objs.size))) { s with heap := (s.heap.push o).push { cls := .type "enumerate", data := .fields #[.none, .bool false, .ref s.heap.objs.size, rawInt 0, .none, .none] } }) :=
  .of_wp fun prog w A R s h => by
    obtain ⟨hp, g, d, tk, os⟩ := s; obtain ⟨h1, h⟩ := h
    have hsub := sub_enumerate
    have q1 : ∀ {A' : Around} {E : Value → Shared → Prop} {Q : Value → Shared → Prop}, Q (.ref hp.objs.size) ⟨hp.push o, g, d, tk, os⟩ → wpAny (model prog w) A' (pyIter v) Q E ⟨hp, g, d, tk, os⟩ :=
      fun q => B.iter prog w _ _ ⟨hp, g, d, tk, os⟩ _ h1 q
    wp_walk using q1
    refine wpAny_stack_any fun st => wpAny_pure ?_
    split
    · rename_i c _ _ _ _ _
      cases (c == Value.type "enumerate")
      · wp_walk using q1
        exact ⟨_, rfl, h⟩
      · wp_walk using q1
        exact ⟨_, rfl, h⟩
    · wp_walk using q1
      exact ⟨_, rfl, h⟩
theorem UL_enum_begins1 {prog : Program} {w : World} {A : Around} {E : Value → Shared → Prop} {s : Shared} {v : Value} {o : Obj} {H : Heap → Prop} {Q : Value → Shared → Prop} (B : Begins v o H) (h1 : H s.heap)
    (h : ∀ h', IsEnum h' (s.heap.objs.size + 1) s.heap.objs.size 0 .none → h'.get? s.heap.objs.size = some o → h'.objs.size = s.heap.objs.size + 2 →
      (∀ b o, s.heap.get? b = some o → h'.get? b = some o) → Q (.ref (s.heap.objs.size + 1)) { s with heap := h' }) :
    wpAny (model prog w) A (call (.type "enumerate") [v]) Q E s := by
  refine callType_new F.called_enumerate (by decide) (F.typeCall_enumerate_1 _) (F.newCall_enumerate_1 _) (fun obj => F.args_object_init_2 obj _) F.entry_enumerate_new
    (UL_meets_enum1 B) ⟨h1, ?_⟩
  have hz : (s.heap.push o).objs.size = s.heap.objs.size + 1 := Heap.size_push ..
  show _ ∧ _
  rw [hz]
  have he : IsEnum ((s.heap.push o).push { cls := .type "enumerate", data := .fields #[.none, .bool false, .ref s.heap.objs.size, rawInt 0, .none, .none] }) (s.heap.objs.size + 1) s.heap.objs.size 0 .none := by
    have := Heap.get?_push_size (s.heap.push o) (o := { cls := .type "enumerate", data := .fields #[.none, .bool false, .ref s.heap.objs.size, rawInt 0, .none, .none] }) rfl
    rw [hz] at this; exact this
  refine ⟨⟨_, he, rfl⟩, h _ he (Heap.get?_push_of_some _ (Heap.get?_push_size _ B.free)) (by rw [Heap.size_push, hz]) fun b o x => Heap.get?_push_of_some _ (Heap.get?_push_of_some _ x)⟩
end PySem
namespace UL
open PySem PySem.Spec PyProof.Rows L2
/-- the tuple at a, each item in a new pair -/
def Itet (K : PySem.W.Frag) (a : Addr) : It :=
  ⟨fun i H => ∃ (xs : List V) (x : V), SqT K H a xs ∧ xs[i]? = some x, fun i H v H' => ∃ T x, v = .ref T ∧ H T = none ∧ H' = upd H T (.tup [.int (i : Nat), x]) ∧ ∀ xs, SqT K H a xs → xs[i]? = some x, fun i H => ∃ xs : List V, SqT K H a xs ∧ xs.length = i⟩
theorem turn_enumT {P : Program} {w : World} {K : PySem.W.Frag} {elts : List Expr} {kk : Nat} {tpos : Pos} (a e it : Addr) :
    Turn P w K (.Tuple elts kk tpos) (Itet K a) [e, it] e (fun i h => (∃ old, IsEnum h e it ((i : Nat) : Int) old) ∧ h.IsTupleIter it a i) where
  mem := by simp
  obj := fun i h st b hb => by
    obtain ⟨⟨old, he⟩, ⟨o, ho, hc, hd⟩⟩ := st
    have e' : b = e ∨ b = it := by simpa using hb
    rcases e' with z | z
    · rw [z]; exact ⟨_, he, fun v q => nomatch q⟩
    · rw [z]; exact ⟨o, ho, fun v q => by rw [hd] at q; cases q⟩
  keep := fun i h h' st k => let ⟨⟨old, he⟩, hi⟩ := st; ⟨⟨old, k e (by simp) _ he⟩, hi.at fun o q => k it (by simp) o q⟩
  item := by
    intro X hP hw hK hc i pins s σ H E I hf st hg
    subst hP hw hK
    obtain ⟨⟨old, he⟩, hit⟩ := st
    obtain ⟨xs, x, hq, hx⟩ := hg
    obtain ⟨its, rv, p, hz⟩ := I.tuple hq
    obtain ⟨u, hu, ru⟩ := rv.get hx
    have p' : s.heap.IsTuple a its.toArray := p
    have hei : e ≠ it := fun z => by
      obtain ⟨o, ho, hc', _⟩ := hit
      rw [← z, he] at ho
      cases ho
      exact absurd (Value.type.inj hc') (by decide)
    have hai : a ≠ it := fun z => by
      obtain ⟨o, ho, hc', _⟩ := hit
      obtain ⟨o2, ho2, hc2, _⟩ := p'
      rw [z, ho] at ho2
      cases ho2
      rw [hc'] at hc2
      exact absurd (Value.type.inj hc2) (by decide)
    have hae : e ≠ a := fun z => by
      obtain ⟨o2, ho2, hc2, _⟩ := p'
      rw [← z, he] at ho2
      cases ho2
      exact absurd (Value.type.inj hc2) (by decide)
    have W := GoesN.ofWalksT (elts := elts) (k := kk) (pos := tpos) (WalksT.enumerateD (A := X.A) (Draws.tuple (prog := X.prog) (w := X.w) (A := X.A.in1) (I.ok.hd hc) it a hai its.toArray) e hei (by simp [hei, hae]) (by simp))
    have hi : i < its.toArray.size := by
      have := (List.getElem?_eq_some_iff.mp hu).1
      simpa using this
    refine W.goes i s _ E hi ⟨⟨old, he⟩, hit, p'⟩ fun v h' tk hY st' hk htk => ?_
    obtain ⟨T, vals, rfl, hT0, ⟨t, y, hy, rfl⟩, hT⟩ := hY
    obtain ⟨⟨old', he'⟩, hit', _⟩ := st'
    have ey : y = u := by
      have h1 : its[i]? = some y := by simpa using hy
      rw [hu] at h1
      exact (Option.some.inj h1).symm
    subst ey
    have new : ObjOk X.prog X.w (upd H T (.tup [.int (i : Nat), x])) h' T (.tup [.int (i : Nat), x]) :=
      ⟨by show 2 ≤ sizeLine; decide, [.int i t, y], .cons ⟨_, rfl⟩ (.cons ru .nil), hT⟩
    have hn : H T = none := I.hok.fresh hT0
    have I1 : Inv X pins σ (upd H T (.tup [.int (i : Nat), x])) { s with heap := h', toks := tk } := I.turnedNew (ch := [e, it]) (fun b ob hb q => hk b ob hb q) hf hT0 new
    refine ⟨.ref T, _, I1, rfl, ⟨T, x, rfl, hn, rfl, fun ys hy => by rw [I.tuple_inj hy hq]; exact hx⟩, ⟨⟨old', by simpa using he'⟩, hit'⟩, fun b hb => ?_⟩
    have nb : b ≠ T := fun z => by
      have e' : b = e ∨ b = it := by simpa using hb
      rcases e' with q | q
      · rw [← z, q] at hT0
        exact absurd (Heap.lt_size he) (Nat.not_lt.mpr hT0)
      · obtain ⟨o, ho, _⟩ := hit
        rw [← z, q] at hT0
        exact absurd (Heap.lt_size ho) (Nat.not_lt.mpr hT0)
    rw [upd_ne nb]
    exact (hf b hb).1
  done := by
    intro X hP hw hK hc i pins s σ H E I hf st hg
    subst hP hw hK
    obtain ⟨⟨old, he⟩, hit⟩ := st
    obtain ⟨xs, hq, hx⟩ := hg
    obtain ⟨its, rv, p, hz⟩ := I.tuple hq
    have p' : s.heap.IsTuple a its.toArray := p
    have hei : e ≠ it := fun z => by
      obtain ⟨o, ho, hc', _⟩ := hit
      rw [← z, he] at ho
      cases ho
      exact absurd (Value.type.inj hc') (by decide)
    have hai : a ≠ it := fun z => by
      obtain ⟨o, ho, hc', _⟩ := hit
      obtain ⟨o2, ho2, hc2, _⟩ := p'
      rw [z, ho] at ho2
      cases ho2
      rw [hc'] at hc2
      exact absurd (Value.type.inj hc2) (by decide)
    have hae : e ≠ a := fun z => by
      obtain ⟨o2, ho2, hc2, _⟩ := p'
      rw [← z, he] at ho2
      cases ho2
      exact absurd (Value.type.inj hc2) (by decide)
    have hn : i = its.toArray.size := by rw [List.size_toArray, ← rv.length]; exact hx.symm
    subst hn
    obtain ⟨f0, f1, f2, f3, f4, f5⟩ := hf it (by simp)
    exact wpAny_pyNext_enum_endD (Draws.tuple (prog := X.prog) (w := X.w) (A := X.A.in1) (I.ok.hd hc) it a hai its.toArray) he ⟨hit, p'⟩ fun h' eb => ⟨rfl, I.turned (t' := s.toks) (fun b o hb q => eb b o hb q) f0 f1 f3 f4 f5⟩
  self := fun A i s Q E st h => let ⟨⟨_, he⟩, _⟩ := st; wpAny_pyIter_enum he h
def iEnumT (K : PySem.W.Frag) (ta : TA) : TI := fun σ H R => ta σ H fun vs H1 => ∃ a xs, vs = [.ref a] ∧ ((SqL K H1 a xs ∧ R (Ite K a) H1) ∨ (SqT K H1 a xs ∧ R (Itet K a) H1))
/-- enumerate(x), x a list or a tuple -/
theorem pi_enumT {X : Cx} {e : Expr} {ta : TA} {p pos tpos : Pos} {elts : List Expr} {kk : Nat} (hg : Gl X "enumerate") (hm : X.mg "enumerate" = none) (ha : PA X [e] ta) (hs : starEach [e] X.env = [(false, eval e X.env)] := by rfl) :
    PI X (.Tuple elts kk tpos) (.Call (.Name "enumerate" p) [e] [] pos) (iEnumT X.K ta) := by
  refine ⟨fun pins s σ H R I h => ?_⟩
  refine Call_ (ld_blt I hg hm boot_enumerate (PyProof.Rows.callWith_type1 (thn (ha.run pos pins s σ H _ I h) fun us s1 ⟨vs, H1, I1, r1, q1⟩ => ?_) hs rfl))
  obtain ⟨a, xs, ex, q1⟩ := q1
  subst ex
  cases r1 with
  | cons r rr =>
    cases rr
    cases r
    have hfp : ∀ b ∈ [s1.heap.objs.size + 1, s1.heap.objs.size], s1.heap.objs.size ≤ b := fun b hb => by
      have e' : b = s1.heap.objs.size + 1 ∨ b = s1.heap.objs.size := by simpa using hb
      rcases e' with z | z
      · rw [z]; exact Nat.le_add_right _ _
      · rw [z]; exact Nat.le_refl _
    rcases q1 with ⟨hq, q⟩ | ⟨hq, q⟩
    · obtain ⟨its, rv, p', hz⟩ := I1.list hq
      refine call_enumerate_list p'.isList fun h' he hit hsz hk => wpAny_pyIter_enum he ?_
      have I2 : Inv X pins σ H1 { s1 with heap := h' } := I1.kept (t' := s1.toks) hk
      exact ⟨s1.heap.objs.size + 1, [s1.heap.objs.size + 1, s1.heap.objs.size], _, _, H1, rfl, I2, turn_enum a (s1.heap.objs.size + 1) s1.heap.objs.size, ⟨⟨.none, he⟩, hit, Nat.succ_ne_self _⟩, fun b hb => I1.fpOk (hfp b hb) (I1.hok.fresh (hfp b hb)), q⟩
    · obtain ⟨its, rv, p', hz⟩ := I1.tuple hq
      refine UL_enum_begins1 (begins_tuple a its.toArray) p' fun h' he hit hsz hk => wpAny_pyIter_enum he ?_
      have I2 : Inv X pins σ H1 { s1 with heap := h' } := I1.kept (t' := s1.toks) hk
      exact ⟨s1.heap.objs.size + 1, [s1.heap.objs.size + 1, s1.heap.objs.size], _, _, H1, rfl, I2, turn_enumT a (s1.heap.objs.size + 1) s1.heap.objs.size, ⟨⟨.none, he⟩, ⟨_, hit, rfl, rfl⟩⟩, fun b hb => I1.fpOk (hfp b hb) (I1.hok.fresh (hfp b hb)), q⟩
/-- the walk of such a loop: the pairs are new -/
theorem for_enumT {K : PySem.W.Frag} {a : Addr} {xs : List V} {g : TG} {tb : TS} {D : Ends} {σ : L2.St} {H : Hp} (Pv : Nat → L2.St → Hp → Prop) (h0 : Pv 0 σ H) (hl : ∀ i σ H, i ≤ xs.length → Pv i σ H → SqT K H a xs)
    (hs : ∀ i x σ H T, xs[i]? = some x → Pv i σ H → H T = none → g (.ref T) σ (upd H T (.tup [.int (i : Nat), x])) fun σ2 H2 => tb { D with nx := Pv (i + 1), ct := Pv (i + 1), bk := D.nx } σ2 H2) (hd : ∀ σ H, Pv xs.length σ H → D.nx σ H) :
    ∃ W : Nat → Nat → L2.St → Hp → Prop, (∃ m, W 0 m σ H) ∧ ∀ i m σ H, W i m σ H →
      ((Itet K a).stop i H ∧ D.nx σ H) ∨ ((Itet K a).go i H ∧ ∃ N : L2.St → Hp → Prop, (∀ σ' H', N σ' H' → ∃ m', m' < m ∧ W (i + 1) m' σ' H') ∧ ∀ x H', (Itet K a).yld i H x H' → g x σ H' fun σ2 H2 => tb { D with nx := N, ct := N, bk := D.nx } σ2 H2) := by
  refine ⟨fun i m σ H => m = xs.length - i ∧ i ≤ xs.length ∧ Pv i σ H, ⟨xs.length, by simp, Nat.zero_le _, h0⟩, ?_⟩
  rintro i m σ H ⟨rfl, hi, p⟩
  have q := hl i σ H hi p
  by_cases hlt : i < xs.length
  · refine .inr ⟨⟨xs, xs[i], q, by simp [hlt]⟩, Pv (i + 1), fun σ' H' p' => ⟨xs.length - (i + 1), by omega, rfl, hlt, p'⟩, fun v H' y => ?_⟩
    obtain ⟨T, x, rfl, hT, rfl, hy⟩ := y
    exact hs i x σ H T (hy xs q) p hT
  · have e : i = xs.length := by omega
    subst e
    exact .inl ⟨⟨xs, q, rfl⟩, hd σ H p⟩
/-- the same over a list -/
theorem for_enumL {K : PySem.W.Frag} {a : Addr} {xs : List V} {g : TG} {tb : TS} {D : Ends} {σ : L2.St} {H : Hp} (Pv : Nat → L2.St → Hp → Prop) (h0 : Pv 0 σ H) (hl : ∀ i σ H, i ≤ xs.length → Pv i σ H → SqL K H a xs)
    (hs : ∀ i x σ H T, xs[i]? = some x → Pv i σ H → H T = none → g (.ref T) σ (upd H T (.tup [.int (i : Nat), x])) fun σ2 H2 => tb { D with nx := Pv (i + 1), ct := Pv (i + 1), bk := D.nx } σ2 H2) (hd : ∀ σ H, Pv xs.length σ H → D.nx σ H) :
    ∃ W : Nat → Nat → L2.St → Hp → Prop, (∃ m, W 0 m σ H) ∧ ∀ i m σ H, W i m σ H →
      ((Ite K a).stop i H ∧ D.nx σ H) ∨ ((Ite K a).go i H ∧ ∃ N : L2.St → Hp → Prop, (∀ σ' H', N σ' H' → ∃ m', m' < m ∧ W (i + 1) m' σ' H') ∧ ∀ x H', (Ite K a).yld i H x H' → g x σ H' fun σ2 H2 => tb { D with nx := N, ct := N, bk := D.nx } σ2 H2) := by
  refine ⟨fun i m σ H => m = xs.length - i ∧ i ≤ xs.length ∧ Pv i σ H, ⟨xs.length, by simp, Nat.zero_le _, h0⟩, ?_⟩
  rintro i m σ H ⟨rfl, hi, p⟩
  have q := hl i σ H hi p
  by_cases hlt : i < xs.length
  · refine .inr ⟨⟨xs, xs[i], q, by simp [hlt]⟩, Pv (i + 1), fun σ' H' p' => ⟨xs.length - (i + 1), by omega, rfl, hlt, p'⟩, fun v H' y => ?_⟩
    obtain ⟨T, x, rfl, hT, rfl, hy⟩ := y
    exact hs i x σ H T (hy xs q) p hT
  · have e : i = xs.length := by omega
    subst e
    exact .inl ⟨⟨xs, q, Nat.le_refl _⟩, hd σ H p⟩
end UL
set_option Elab.async false
set_option linter.all false
set_option maxRecDepth 100000
set_option maxHeartbeats 4000000
namespace UL
open PySem PySem.Spec PyProof.Rows L2
open PySem.W (Looks Frag findIn clsIn InstAt)
/-! ### own + -/
section
variable {prog : Program} {w : World} {A : Around} {E : Value → Shared → Prop} {s : Shared} {K : Frag} {x C D f : Addr} {ox : Obj} {od : Option Obj}
/-- a class of its own that says nothing of the operator -/
theorem fillsNo {M : Model} {h : Heap} {nm : String} {cd : ClassData} (X : K.In h) (hc : clsIn K C = some cd) (hm : cd.mro = [.ref C, .type "object"]) (h1 : findIn K (.ref C) (PySem.dunder nm) = some none) (h2 : findIn K (.ref C) (dunderR nm) = some none)
    (o1 : findIn K (.type "object") (PySem.dunder nm) = some none) (o2 : findIn K (.type "object") (dunderR nm) = some none) : Looks M h (fillsNumberSlot (.ref C) nm) false := by
  intro A Q E s k q
  unfold fillsNumberSlot
  refine wpAny_bind ((PySem.W.looks_clsIn X hc).andThen (f := fun cd => pure cd.mro) .now A _ E s k ?_)
  rw [hm, List.anyM_cons]
  refine wpAny_bind ?_
  show wpAny M A (List.anyM _ [PySem.dunder nm, dunderR nm]) _ _ _
  rw [List.anyM_cons]
  refine wpAny_bind (wpAny_bind (PySem.W.looks_findIn X h1 A _ E s k ?_))
  dsimp only
  refine wpAny_pure ?_
  rw [if_neg Bool.false_ne_true, List.anyM_cons]
  refine wpAny_bind (wpAny_bind (PySem.W.looks_findIn X h2 A _ E s k ?_))
  dsimp only
  refine wpAny_pure ?_
  rw [if_neg Bool.false_ne_true]
  show wpAny M A (pure false) _ _ _
  refine wpAny_pure ?_
  rw [if_neg Bool.false_ne_true, List.anyM_cons]
  refine wpAny_bind ?_
  refine wpAny_bind (PySem.W.looks_findIn X o1 A _ E s k ?_)
  refine wpAny_bind (PySem.W.looks_findIn X o2 A _ E s k ?_)
  refine wpAny_pure ?_
  show wpAny M A (if (false : Bool) = true then _ else _) _ _ _
  rw [if_neg Bool.false_ne_true]
  exact wpAny_pure q
theorem fillsI_no {M : Model} {h : Heap} {nm : String} {add : Bool} {cd : ClassData} (X : K.In h) (hc : clsIn K C = some cd) (hm : cd.mro = [.ref C, .type "object"]) (h1 : findIn K (.ref C) (dunderI nm) = some none)
    (o1 : findIn K (.type "object") (dunderI nm) = some none) : Looks M h (fillsInplaceSlot (.ref C) nm add) false := by
  intro A Q E s k q
  unfold fillsInplaceSlot
  refine wpAny_bind ((PySem.W.looks_clsIn X hc).andThen (f := fun cd => pure cd.mro) .now A _ E s k ?_)
  rw [hm, List.anyM_cons]
  refine wpAny_bind (wpAny_bind (PySem.W.looks_findIn X h1 A _ E s k ?_))
  dsimp only
  refine wpAny_pure ?_
  rw [if_neg Bool.false_ne_true, List.anyM_cons]
  refine wpAny_bind (wpAny_bind (PySem.W.looks_findIn X o1 A _ E s k ?_))
  dsimp only
  refine wpAny_pure ?_
  rw [if_neg Bool.false_ne_true]
  exact wpAny_pure q
/-- what the right one must be: of the same class, or of one without the operator -/
structure OpCls (K : Frag) (C : Addr) (nm : String) : Prop where
  sf : PySem.W.selfFirst K C = true
  no : ∃ cd, clsIn K C = some cd ∧ cd.mro = [.ref C, .type "object"]
structure NoOp (K : Frag) (D : Addr) (nm : String) : Prop where
  no : ∃ cd, clsIn K D = some cd ∧ cd.mro = [.ref D, .type "object"]
  h1 : findIn K (.ref D) (PySem.dunder nm) = some none
  h2 : findIn K (.ref D) (dunderR nm) = some none
  o1 : findIn K (.type "object") (PySem.dunder nm) = some none
  o2 : findIn K (.type "object") (dunderR nm) = some none
theorem bin1_own {nm : String} {b : Value} {tb : Value} {Q : Option Value → Shared → Prop} (X : K.In s.heap) (I : InstAt s.heap x ox C od) (hb : Looks (model prog w) s.heap (typeOf b) tb) (hc : PySem.W.selfFirst K C = true)
    (hr : tb = .ref C ∨ ∃ D, tb = .ref D ∧ NoOp K D nm) (hs : findIn K (.ref C) (PySem.dunder nm) = some (some (.ref f))) (hf : PySem.W.isFn K (.ref f) = true)
    (h : wpAny (model prog w) A (call (.ref f) [.ref x, b]) (PySem.W.CmpBack fun v => Q (some v)) E s) : wpAny (model prog w) A (binaryOp1 nm (.ref x) b) Q E s := by
  obtain ⟨cd, rest, hcd, hm⟩ := PySem.W.ksp_first hc
  have one := PySem.W.ksp_try X I hs hf h
  have hfill := PySem.W.fills_K (M := model prog w) (nm := nm) X hcd hm hs
  have fin : ∀ {v' : Value} {s' : Shared}, Q (some v') s' → wpAny (model prog w) A (pure (some v')) Q E s' := fun q => wpAny_pure q
  unfold binaryOp1
  refine wpAny_bind (I.type.here (wpAny_bind (hb.here (wpAny_bind (hfill.here ?_)))))
  have tail : wpAny (model prog w) A (tryMethod (.ref x) (PySem.dunder nm) b) (fun r s' => ∃ v, r = some v ∧ Q (some v) s') E s := one
  by_cases e : tb = .ref C
  · subst e
    simp only [beq_self_eq_true, if_true]
    refine wpAny_bind (wpAny_pure ?_)
    simp only [Bool.and_false, Bool.false_eq_true, if_false, Bool.false_and]
    refine wpAny_bind (wpAny_pure ?_)
    simp only [Bool.false_eq_true, if_false]
    refine wpAny_bind (m := tryMethod (.ref x) _ b) (wpAny_mono tail (fun r s' ⟨v, hv, q⟩ => ?_) fun _ _ e => e)
    subst hv
    exact wpAny_pure q
  · rcases hr with e' | ⟨D, rfl, nd⟩
    · exact absurd e' e
    · have hne : (Value.ref C == Value.ref D) = false := Bool.eq_false_iff.mpr fun q => e (beq_iff_eq.mp q).symm
      obtain ⟨cd', hc', hm'⟩ := nd.no
      simp only [hne, Bool.false_eq_true, if_false]
      refine wpAny_bind ((fillsNo X hc' hm' nd.h1 nd.h2 nd.o1 nd.o2).here ?_)
      simp only [Bool.and_false, Bool.false_eq_true, if_false, Bool.false_and]
      refine wpAny_bind (wpAny_pure ?_)
      simp only [Bool.false_eq_true, if_false]
      refine wpAny_bind (m := tryMethod (.ref x) _ b) (wpAny_mono tail (fun r s' ⟨v, hv, q⟩ => ?_) fun _ _ e => e)
      subst hv
      exact wpAny_pure q
theorem du_add : PySem.dunder "add" = ("__add__" : Str) := by decide +kernel
theorem di_add : dunderI "add" = ("__iadd__" : Str) := by decide +kernel
theorem binop_own {b tb : Value} {Q : Value → Shared → Prop} (X : K.In s.heap) (I : InstAt s.heap x ox C od) (hb : Looks (model prog w) s.heap (typeOf b) tb) (hc : PySem.W.selfFirst K C = true)
    (hr : tb = .ref C ∨ ∃ D, tb = .ref D ∧ NoOp K D "add") (hs : findIn K (.ref C) "__add__" = some (some (.ref f))) (hf : PySem.W.isFn K (.ref f) = true)
    (h : wpAny (model prog w) A (call (.ref f) [.ref x, b]) (PySem.W.CmpBack Q) E s) : wpAny (model prog w) A (binaryOp .Add (.ref x) b) Q E s := by
  unfold binaryOp
  refine wpAny_holding (wpAny_bind (bin1_own (nm := "add") X I hb hc hr (by rw [du_add]; exact hs) hf (wpAny_mono h (fun v s' z => ?_) fun _ _ e => e)))
  cases v <;> first | exact z.elim | exact wpAny_pure z
theorem inop_own {b tb : Value} {Q : Value → Shared → Prop} (X : K.In s.heap) (I : InstAt s.heap x ox C od) (hb : Looks (model prog w) s.heap (typeOf b) tb) (hc : PySem.W.selfFirst K C = true) {cd : ClassData} (hcd : clsIn K C = some cd) (hm : cd.mro = [.ref C, .type "object"])
    (hi : findIn K (.ref C) "__iadd__" = some none) (oi : findIn K (.type "object") "__iadd__" = some none)
    (hr : tb = .ref C ∨ ∃ D, tb = .ref D ∧ NoOp K D "add") (hs : findIn K (.ref C) "__add__" = some (some (.ref f))) (hf : PySem.W.isFn K (.ref f) = true)
    (h : wpAny (model prog w) A (call (.ref f) [.ref x, b]) (PySem.W.CmpBack Q) E s) : wpAny (model prog w) A (inplaceOp .Add (.ref x) b) Q E s := by
  unfold inplaceOp
  refine wpAny_holding (wpAny_bind (I.type.here (wpAny_bind ((fillsI_no (nm := "add") X hcd hm (by rw [di_add]; exact hi) (by rw [di_add]; exact oi)).here ?_))))
  simp only [Bool.false_eq_true, if_false]
  refine wpAny_bind (bin1_own (nm := "add") X I hb hc hr (by rw [du_add]; exact hs) hf (wpAny_mono h (fun v s' z => ?_) fun _ _ e => e))
  cases v <;> first | exact z.elim | exact wpAny_pure z
end
/-! ### as rules -/
section
variable {X : Cx} {CX : CXT} {C g : Addr} {n : Nat} {sp : Sp} {E : XK}
/-- x + y by the def at g -/
def rOpO (K : PySem.W.Frag) (C : Addr) (nm : String) (sp : Sp) (E : XK) : R2 := fun x y H Q => ∃ (a dx : Addr) (fs : List (Str × V)) (t : Value), x = .ref a ∧ H a = some (.ins C dx fs) ∧ TyX K H y t ∧ (t = .ref C ∨ ∃ D, t = .ref D ∧ NoOp K D nm) ∧ sp [x, y] H Q E
theorem op_addO (hc : PySem.W.selfFirst X.K C = true) (hs : PySem.W.findIn X.K (.ref C) "__add__" = some (some (.ref g))) (hf : PySem.W.isFn X.K (.ref g) = true) (F : FnR X.prog X.w X.K X.mg X.base CX n g sp) (hr : Room n X.A) (hx : Passes CX X E) :
    OpR X (binaryOp .Add) (rOpO X.K C "add" sp E) := by
  intro pins s σ H x y v u Q I rx ry h
  obtain ⟨a, dx, fs, t, rfl, ha, ty, hn, q⟩ := h
  cases (show v = Value.ref a from rx)
  obtain ⟨mA, O, _⟩ := ins_get I.hok ha
  obtain ⟨od, J, _⟩ := O.look
  obtain ⟨Pk, Z, pk, _⟩ := kit_of I ry ty
  refine binop_own I.kIn J (Z.ty _ _ I.kIn pk) hc hn hs hf ?_
  refine wpAny_mono (wpAny_call (run_fnR (us := [.ref a, u]) (vs := [.ref a, y]) F hr hx I (.cons rfl (.cons ry .nil)) q)) (fun r s' z => ?_) fun _ _ e => e
  obtain ⟨z', H', I', rz, qz⟩ := z
  exact SlX.cmpback rz ⟨z', H', I', rz, qz⟩
theorem iop_addO (hc : PySem.W.selfFirst X.K C = true) (ho : ∃ cd, clsIn X.K C = some cd ∧ cd.mro = [.ref C, .type "object"]) (hi : findIn X.K (.ref C) "__iadd__" = some none) (oi : findIn X.K (.type "object") "__iadd__" = some none)
    (hs : PySem.W.findIn X.K (.ref C) "__add__" = some (some (.ref g))) (hf : PySem.W.isFn X.K (.ref g) = true) (F : FnR X.prog X.w X.K X.mg X.base CX n g sp) (hr : Room n X.A) (hx : Passes CX X E) :
    OpR X (inplaceOp .Add) (rOpO X.K C "add" sp E) := by
  intro pins s σ H x y v u Q I rx ry h
  obtain ⟨a, dx, fs, t, rfl, ha, ty, hn, q⟩ := h
  cases (show v = Value.ref a from rx)
  obtain ⟨cd, hcd, hm⟩ := ho
  obtain ⟨mA, O, _⟩ := ins_get I.hok ha
  obtain ⟨od, J, _⟩ := O.look
  obtain ⟨Pk, Z, pk, _⟩ := kit_of I ry ty
  refine inop_own I.kIn J (Z.ty _ _ I.kIn pk) hc hcd hm hi oi hn hs hf ?_
  refine wpAny_mono (wpAny_call (run_fnR (us := [.ref a, u]) (vs := [.ref a, y]) F hr hx I (.cons rfl (.cons ry .nil)) q)) (fun r s' z => ?_) fun _ _ e => e
  obtain ⟨z', H', I', rz, qz⟩ := z
  exact SlX.cmpback rz ⟨z', H', I', rz, qz⟩
/-- len(x) by the def at g -/
def rLenI (C : Addr) (sp : Sp) (E : XK) : List V → Hp → VK → Prop := fun xs H Q => ∃ (a dx : Addr) (fs : List (Str × V)), xs = [.ref a] ∧ H a = some (.ins C dx fs) ∧ sp [.ref a] H (fun z H' => ∃ i : Int, z = .int i ∧ 0 ≤ i ∧ i < 2 ^ 63 ∧ Q z H') E
theorem call_lenI (hs : PySem.W.findIn X.K (.ref C) "__len__" = some (some (.ref g))) (hf : PySem.W.isFn X.K (.ref g) = true) (F : FnR X.prog X.w X.K X.mg X.base CX n g sp) (hr : Room (n + 1) X.A) (hx : Passes CX X E) :
    CallR X (.builtin "len") (rLenI C sp E) := by
  intro pins s σ H xs us Q I r h
  obtain ⟨a, dx, fs, rfl, ha, q⟩ := h
  obtain ⟨u, rfl, ru⟩ := vals1 r
  cases (show u = Value.ref a from ru)
  obtain ⟨mA, O, _⟩ := ins_get I.hok ha
  obtain ⟨od, J, _⟩ := O.look
  obtain ⟨m, hF⟩ := I.fr
  refine PySem.W.len_K hF I.ok.mod.kin J hs hf (wpAny_mono (wpAny_call (SlX.run_at (us := [.ref a]) (ws := [.ref a]) F hr.in1 I.env0.in1 hx I (.cons rfl .nil) q)) (fun w s' z => ?_) fun _ _ e => e)
  obtain ⟨z', H', I', rz, i, ei, h0, h1, qz⟩ := z
  subst ei
  obtain ⟨t, rfl⟩ := (show ∃ t, w = Value.int i t from rz)
  exact ⟨⟨h0, h1⟩, .int i, H', I'.tok _, ⟨_, rfl⟩, qz⟩
end
end UL
set_option Elab.async false
set_option linter.all false
set_option maxRecDepth 100000
set_option maxHeartbeats 4000000
namespace UL
open PySem PySem.Spec PyProof.Rows L2
/-! ### an instance called with keywords -/
theorem callO_ofK {M : Model} {A : Around} {E : Value → Shared → Prop} {s : Shared} {a : Addr} {pos : Pos} {Q : Value → Shared → Prop} {args : List (Bool × Sem Value)} {keywords : List (Option Str × Sem Value)} (hplain : (args.any (·.1) || keywords.any (·.1.isNone)) = false)
    (h : wpAny M A (evalArgs (.ref a) true args keywords) (fun z s₁ => (∃ C ox od, PySem.W.InstAt s₁.heap a ox C od ∧ ox.data = .plain) ∧ wpAny M A (call (.ref a) ([] ++ z.pos) z.kw) Q E s₁) E s) : wpAny M A (callWith pos (.ref a) [] args keywords) Q E s := by
  unfold callWith
  refine wpAny_bind (wpAny_holding (wpAny_mono h (fun z s₁ h₁ => wpAny_bind (wpAny_standAt ?_)) fun _ _ y => y))
  obtain ⟨⟨C, ox, od, J, hd⟩, h₁⟩ := h₁
  have L := PySem.W.kco_keeper (M := M) J hd
  simp only [hplain]
  refine wpAny_bind (L.here ?_)
  have tail : ∀ {t : Sem Value}, wpAny M A t Q E s₁ → wpAny M A (t >>= fun r => holding [r] point >>= fun _ => pure r) Q E s₁ :=
    fun ht => wpAny_bind (wpAny_mono ht (fun r s₂ hr => wpAny_bind (wpAny_holding (wpAny_point (wpAny_pure hr)))) fun _ _ y => y)
  exact tail (wpAny_operateT h₁)
section
variable {X : Cx} {CX : CXT} {C g : Addr} {k : Nat} {fd : FuncData} {ps ks : List Str} {gg : List Value → List Value → List Value} {gV : List V → List V → List V} {sp : Sp} {E : XK} {fe : Expr} {kws : List Keyword} {pos : Pos} {tf : TE} {tk : TA}
def tCallOK (C : Addr) (n : Nat) (gV : List V → List V → List V) (sp : Sp) (E : XK) (tf : TE) (tk : TA) : TE := fun σ H Q => tf σ H fun y H1 => ∃ a, y = V.ref a ∧ tk σ H1 fun zs H2 => (∃ dx fs, H2 a = some (.ins C dx fs)) ∧ zs.length = n ∧ sp (gV [V.ref a] zs) H2 Q E
theorem pe_callOK (hf : PE X fe tf) (c : StX.CallO X.K C g) (F : FnOk X.prog X.w X.K X.mg X.base CX k g fd ps sp) (hb : KBn X.K fd ps 1 ks gg gV) (hr : Room k X.A) (hx : Passes CX X E) (hkw : PK X kws tk)
    (hall : (backToKw pos (keywordEach kws X.env)).all (·.1.isSome) = true := by rfl) (hks : (backToKw pos (keywordEach kws X.env)).filterMap (·.1) = ks := by rfl)
    (ht : eval (.Call fe [] kws pos) X.env = (do callWith pos (← eval fe X.env) [] (backTo pos (starEach [] X.env)) (backToKw pos (keywordEach kws X.env))) := by rfl)
    (hpl : ((backTo pos (starEach [] X.env)).any (·.1) || (backToKw pos (keywordEach kws X.env)).any (·.1.isNone)) = false := by rfl) : PE X (.Call fe [] kws pos) (tCallOK C ks.length gV sp E tf tk) := by
  refine ⟨fun pins s σ H Q I h => ?_⟩
  rw [ht]
  refine wpAny_bind (thn (hf.run pins s σ H _ I h) fun u s1 ⟨y, H1, I1, ry, a, ey, q⟩ => ?_)
  subst ey
  obtain rfl : u = Value.ref a := ry
  refine callO_ofK hpl (evalArgs_kw2_nil hall (thn (hkw.run pos pins s1 σ H1 _ I1 q) fun ws s2 ⟨zs, H2, I2, rz, ⟨dx, fs, hi⟩, l, q2⟩ => ?_))
  obtain ⟨ox, od, J, hd⟩ := StX.insC_at I2 (.inr ⟨dx, fs, hi⟩)
  refine ⟨⟨C, ox, od, J, hd⟩, wpAny_call (PySem.W.kco_code I2.kIn J hd c.at_ c.fn c.fi ?_)⟩
  rw [hks]
  have r1 : Vals [V.ref a] [Value.ref a] := .cons rfl .nil
  have r2 := hb.rel r1 rz
  refine codeAny_mono (F.run X.A X.stack s2 H2 ⟨[.ref a], ks.zip ws⟩ (gg [.ref a] ws) (gV [V.ref a] zs) Q E hr I2.env0 (hb.to s2 [.ref a] ws I2.kIn rfl (rz.length.symm.trans l)) r2 q2) fun r s' hq => ?_
  cases r with
  | error e => exact hx pins σ H2 s2 e s' I2 hq
  | ok fl =>
    cases fl with
    | ret u => exact I2.after hq
    | next => exact False.elim hq
    | brk => exact False.elim hq
    | cont => exact False.elim hq
end
end UL
set_option Elab.async false
set_option linter.all false
set_option maxRecDepth 100000
set_option maxHeartbeats 4000000
namespace GQ
open PySem PySem.SeqAt
open AutoSeq1 (wpAny_loadPart')
open MeetsSeq MeetsSeq2 MeetsSeq3 SeqRoads2
section
variable {prog : Program} {w : World} {A : Around} {R : Result → Shared → Prop} {E : Value → Shared → Prop} {s : Shared}
/-- two tuples of any lengths; the items' == may make objects -/
theorem tuple_eqB (l b : Addr) (items items2 : Array Value) (n n2 : Nat) (dd dd2 : Option Addr) (sl sl2 : Array (Option Value)) (e : Nat → Bool) (I : Shared → Prop)
    (turn : ∀ i (h1 : i < items.size) (h2 : i < items2.size) s, I s → wpAny (model prog w) A.in1 (eqBool items[i] items2[i]) (fun r s' => r = e i ∧ I s') (fun e s' => R (.error e) s') s)
    (fin : ∀ s, I s → R (.ok (.ret (.bool ((List.range (min items.size items2.size)).all e && items.size == items2.size)))) s) {s : Shared} (hl1 : s.heap.get? l = some { cls := .type "tuple", dict := dd, data := .seq items n, slots := sl }) (hb1 : s.heap.get? b = some { cls := .type "tuple", dict := dd2, data := .seq items2 n2, slots := sl2 }) (h : I s) :
    wpAny (model prog w) A.in1 (Builtin.«tuple.__eq__» ⟨[.ref l, .ref b], []⟩) (FinOf prog w A R) (fun e s' => R (.error e) s') s := by
  have f2 := AutoSeq1.sub_tuple_tuple
  have hZ : (items.toList.zip items2.toList).length = min items.size items2.size := by simp
  have h0 := h
  obtain ⟨hp, g, d, tk, os⟩ := s
  wp_walk using wpAny_loadPart' hl1, wpAny_loadPart' hb1, wpAny_forIn_list _ (fun rest b s' => b.1 = none ∧ I s' ∧ ∃ i, rest = (items.toList.zip items2.toList).drop i ∧
      (List.range (min items.size items2.size)).all e = ((List.range (min items.size items2.size)).drop i).all e) _
  case turn =>
    rintro ⟨y, x⟩ rest b s' ⟨hb', hI, i, hz, hR⟩
    have hlt : i < (items.toList.zip items2.toList).length := by
      rcases Nat.lt_or_ge i (items.toList.zip items2.toList).length with h' | h'
      · exact h'
      · rw [List.drop_of_length_le h'] at hz; cases hz
    have hm : i < min items.size items2.size := hZ ▸ hlt
    have h1 : i < items.size := Nat.lt_of_lt_of_le hm (Nat.min_le_left _ _)
    have h2 : i < items2.size := Nat.lt_of_lt_of_le hm (Nat.min_le_right _ _)
    rw [List.drop_eq_getElem_cons hlt] at hz
    injection hz with hyx hrest
    have hy : y = items[i] := by have := congrArg Prod.fst hyx; simpa using this
    have hx : x = items2[i] := by have := congrArg Prod.snd hyx; simpa using this
    subst hy hx
    have hd : (List.range (min items.size items2.size)).drop i = i :: (List.range (min items.size items2.size)).drop (i + 1) := by simp [List.drop_eq_getElem_cons, hm]
    rw [hd, List.all_cons] at hR
    refine wpAny_bind (wpAny_mono (turn i h1 h2 s' hI) (fun r s2 q2 => ?_) fun _ _ x => x)
    obtain ⟨hr, q2⟩ := q2
    subst hr
    cases hy : e i with
    | true =>
      rw [hy] at hR
      wp_walk
      exact ⟨rfl, q2, i + 1, hrest, by simpa using hR⟩
    | false =>
      rw [hy] at hR
      have := fin s2 q2
      rw [hR] at this
      wp_walk
      simpa using this
  case fin =>
    rintro ⟨b1, b2⟩ s' ⟨hb', hI, i, hz, hR⟩
    simp only at hb'
    subst hb'
    have hge : min items.size items2.size ≤ i := by
      rcases Nat.lt_or_ge i (items.toList.zip items2.toList).length with h' | h'
      · rw [List.drop_eq_getElem_cons h'] at hz; cases hz
      · exact hZ ▸ h'
    rw [List.drop_of_length_le (by simpa using hge)] at hR
    have := fin s' hI
    rw [hR] at this
    wp_walk
    simpa [Builtin.Tuple.tupleCompareSizes] using this
  case h =>
    exact ⟨rfl, h0, 0, rfl, by simp⟩
theorem rc_tupB {l b : Addr} {items items2 : Array Value} {Q : Value → Shared → Prop} (e : Nat → Bool) (hu : A.units < cLine) (I : Shared → Prop)
    (hl : s.heap.IsTuple l items) (hb : s.heap.IsTuple b items2)
    (turn : ∀ i (h1 : i < items.size) (h2 : i < items2.size) s, I s → wpAny (model prog w) A.in1 (eqBool items[i] items2[i]) (fun r s' => r = e i ∧ I s') E s)
    (fin : ∀ s, I s → Q (.bool ((List.range (min items.size items2.size)).all e && items.size == items2.size)) s) (h : I s) : wpAny (model prog w) A (richCompare .Eq (.ref l) (.ref b)) Q E s := by
  obtain ⟨⟨cls, dd, data, sl⟩, ho, hc, n, hd⟩ := id hl
  obtain ⟨⟨cls2, dd2, data2, sl2⟩, ho2, hc2, n2, hd2⟩ := id hb
  simp only at hc hd hc2 hd2
  subst hc hd hc2 hd2
  refine wpAny_richCompare_same_room (op := .Eq) ⟨_, ho, rfl⟩ ⟨_, ho2, rfl⟩ F.slot_tuple_eq (call_here F.slot_tuple_eq ⟨_, ho, rfl⟩ F.entry_tuple_eq (F.args_tuple_eq_2 _ _) ?_) hu
  exact tuple_eqB (R := wants (fun v s' => v ≠ .notImplemented ∧ Q v s') E) l b items items2 n n2 dd dd2 sl sl2 e I turn (fun s' q => ⟨(fun x => nomatch x), fin s' q⟩) ho ho2 h
end
end GQ
namespace UL
open PySem PySem.Spec PyProof.Rows L2
/-- how two values compare, by the abstract heap -/
abbrev Eqb := V → V → Bool → Hp → Prop
def MonB (D : Eqb) : Prop := ∀ x y r H H', Ext H H' → D x y r H → D x y r H'
def EqB (X : Cx) (n : Nat) (D : Eqb) : Prop :=
  ∀ (A : Around) (pins : List (Addr × Obj)) (s : Shared) (σ : L2.St) (H : Hp) (x y : V) (r : Bool) (u v : Value), Sub X n A → Inv X pins σ H s → RelV x u → RelV y v → D x y r H →
    wpAny (model X.prog X.w) A (eqBool u v) (fun r' s' => r' = r ∧ ∃ H', Inv X pins σ H' s' ∧ Ext H H') X.xe s
def RcB (X : Cx) (n : Nat) (D : Eqb) : Prop :=
  ∀ (A : Around) (pins : List (Addr × Obj)) (s : Shared) (σ : L2.St) (H : Hp) (x y : V) (r : Bool) (u v : Value), Sub X n A → Inv X pins σ H s → RelV x u → RelV y v → D x y r H →
    wpAny (model X.prog X.w) A (richCompare .Eq u v) (fun r' s' => r' = .bool r ∧ ∃ H', Inv X pins σ H' s' ∧ Ext H H') X.xe s
section
variable {X : Cx} {n m : Nat} {D : Eqb}
def DInsB (C : Addr) (R : Addr → Addr → Bool → Hp → Prop) : Eqb := fun x y r H => ∃ a b dx dy fs gs, x = .ref a ∧ y = .ref b ∧ H a = some (.ins C dx fs) ∧ H b = some (.ins C dy gs) ∧ R a b r H
def spEqB (R : Addr → Addr → Bool → Hp → Prop) : Sp := fun vs H Q _ => ∃ a b r, vs = [.ref a, .ref b] ∧ R a b r H ∧ ∀ H', Ext H H' → Q (.bl r) H'
theorem rcB_ins {CX : CXT} {C f : Addr} {R : Addr → Addr → Bool → Hp → Prop} {E : XK} (F : FnR X.prog X.w X.K X.mg X.base CX n f (spEqB R))
    (hs : PySem.W.findIn X.K (.ref C) "__eq__" = some (some (.ref f))) (hf : PySem.W.isFn X.K (.ref f) = true) (hx : Passes CX X E) : RcB X n (DInsB C R) := by
  intro A pins s σ H x y r u v sb I rx ry d
  obtain ⟨a, b, dx, dy, fs, gs, rfl, rfl, ha, hb', hr⟩ := d
  cases rx
  cases ry
  obtain ⟨mA, J, _⟩ := ins_get I.hok ha
  obtain ⟨mB, J', _⟩ := ins_get I.hok hb'
  obtain ⟨od, J, _⟩ := J.look
  obtain ⟨od', J', _⟩ := J'.look
  obtain ⟨m, hF⟩ := I.fr
  refine PySem.W.cmp_K (op := .Eq) (tb := .ref C) sb.room.units0 hF I.ok.mod.kin J J'.type (by simp [PySem.W.notFirst]) hs hf ?_
  have hsp : spEqB R [.ref a, .ref b] H (fun v H' => v = .bl r ∧ Ext H H') E := ⟨a, b, r, rfl, hr, fun H' e => ⟨rfl, e⟩⟩
  have e0 : Env0 X.prog X.w X.K X.mg X.base A X.stack s H := by
    have e := I.env0
    exact ⟨by rw [sb.fr]; exact e.frames, e.mod, e.bs, e.bsz, e.funs, e.frf, e.hok, e.bare⟩
  have r2 : Vals [V.ref a, V.ref b] [Value.ref a, Value.ref b] := .cons rfl (.cons rfl .nil)
  refine wpAny_call (codeAny_mono (F A X.stack s H [.ref a, .ref b] [.ref a, .ref b] _ E sb.room e0 r2 hsp) fun r' s' hq => ?_)
  cases r' with
  | error e => exact hx pins σ H s e s' I hq
  | ok fl =>
    cases fl with
    | ret w =>
      obtain ⟨z, H', I', rz, ez, ex⟩ := I.after hq
      subst ez
      cases rz
      exact ⟨rfl, H', I', ex⟩
    | next => exact False.elim hq
    | brk => exact False.elim hq
    | cont => exact False.elim hq
theorem RcB.eqB (h : RcB X n D) (hr : ∀ x y r H, D x y r H → ∃ a b, x = .ref a ∧ y = .ref b ∧ (a = b → r = true)) : EqB X n D := by
  intro A pins s σ H x y r u v sb I rx ry d
  obtain ⟨a, b, rfl, rfl, hs⟩ := hr _ _ _ _ d
  cases rx
  cases ry
  by_cases hab : a = b
  · rw [hs hab]
    subst hab
    exact SeqAt.EqAt.same (A := A) (s := s) (.ref a) X.prog X.w X.xe _ ⟨rfl, H, I, Ext.rfl'⟩
  · refine GQ.eqBool_refG hab (wpAny_mono (h A pins s σ H (.ref a) (.ref b) r _ _ sb I rfl rfl d) (fun r' s' q => ?_) fun _ _ x => x)
    obtain ⟨hr', q⟩ := q
    exact ⟨r, hr', rfl, q⟩
/-- two tuples: the i-th items compare as e says -/
def DTupB (K : PySem.W.Frag) (D : Eqb) : Eqb := fun x y r H => ∃ a b xs ys, ∃ e : Nat → Bool, x = .ref a ∧ y = .ref b ∧ SqT K H a xs ∧ SqT K H b ys ∧ (∀ (i : Nat) x y, xs[i]? = some x → ys[i]? = some y → D x y (e i) H) ∧
  r = ((List.range (min xs.length ys.length)).all e && xs.length == ys.length)
theorem rcB_tup (hD : MonB D) (h : EqB X n D) : RcB X (n + 1) (DTupB X.K D) := by
  intro A pins s σ H x y r u v sb I rx ry d
  obtain ⟨a, b, xs, ys, e, rfl, rfl, ha, hb, p, rfl⟩ := d
  cases rx
  cases ry
  obtain ⟨its, r, e1, z⟩ := I.tuple ha
  obtain ⟨its2, r2, e2, z2⟩ := I.tuple hb
  refine GQ.rc_tupB e sb.room.units0 (fun s' => LoopI X pins σ H s') e1 e2 (fun i h1 h2 s' l => ?_) (fun s' q => ⟨?_, q⟩) ⟨H, I, Ext.rfl'⟩
  · obtain ⟨H1, I1, x1⟩ := l
    have g1 : its[i]? = some its.toArray[i] := by
      have h1' : i < its.length := by simpa using h1
      rw [List.getElem?_eq_getElem h1'] <;> simp
    have g2 : its2[i]? = some its2.toArray[i] := by
      have h2' : i < its2.length := by simpa using h2
      rw [List.getElem?_eq_getElem h2'] <;> simp
    have k1 : i < xs.length := by rw [r.length]; simpa using h1
    have k2 : i < ys.length := by rw [r2.length]; simpa using h2
    obtain ⟨u, hu, ru⟩ := r.get (List.getElem?_eq_getElem k1)
    obtain ⟨v, hv, rv⟩ := r2.get (List.getElem?_eq_getElem k2)
    rw [g1] at hu
    rw [g2] at hv
    rw [Option.some.inj hu, Option.some.inj hv]
    refine wpAny_mono (h A.in1 pins s' σ H1 _ _ (e i) u v sb.in1 I1 ru rv (hD _ _ _ _ _ x1 (p i _ _ (List.getElem?_eq_getElem k1) (List.getElem?_eq_getElem k2)))) (fun r s2 q => ?_) fun _ _ x => x
    obtain ⟨hr, H2, I2, x2⟩ := q
    exact ⟨hr, H2, I2, x1.trans x2⟩
  · rw [List.size_toArray, List.size_toArray, ← r.length, ← r2.length]
theorem op_eqB (h : RcB X n D) (hr : Room n X.A) : OpR X (compareOp .Eq) (fun x y H Q => ∃ r, D x y r H ∧ ∀ H', Ext H H' → Q (.bl r) H') := by
  intro pins s σ H x y v u Q I rx ry hq
  obtain ⟨r, d, q⟩ := hq
  show wpAny (model X.prog X.w) X.A (richCompare .Eq v u) (EP X pins σ Q) X.xe s
  refine wpAny_mono (h X.A pins s σ H x y r v u ⟨hr, rfl⟩ I rx ry d) (fun r' s' z => ?_) fun _ _ x => x
  obtain ⟨hr', H', I', e⟩ := z
  subst hr'
  exact ⟨.bl r, H', I', rfl, q H' e⟩
end
end UL
set_option Elab.async false
set_option linter.all false
set_option maxRecDepth 100000
set_option maxHeartbeats 4000000
namespace UL
open PySem PySem.Spec PyProof.Rows L2
section
variable (P : Program) (w : World) (K : PySem.W.Frag) (mg : Str → Option Value) (base : Heap)
/-- the class x, at C, made by a promise of positional values -/
def MakR (k : Nat) (x : Str) (C : Addr) (sp : Sp) : Prop := ∃ f, FnR P w K mg base CX0 k f sp ∧ Mk K C f ∧ mg x = some (.ref C)
/-- an instance of the class at C called -/
def CalO (k : Nat) (C : Addr) (sp : Sp) : Prop := ∃ g, FnR P w K mg base CX0 k g sp ∧ StX.CallO K C g
def CalOK (k : Nat) (C : Addr) (ks : List Str) (gV : List V → List V → List V) (sp : Sp) : Prop := ∃ g fd ps gg, FnOk P w K mg base CX0 k g fd ps sp ∧ StX.CallO K C g ∧ KBn K fd ps 1 ks gg gV
end
section
variable {X : Cx} {k j : Nat} {x : Str} {C : Addr} {sp : Sp} {e fe : Expr} {es : List Expr} {kws : List Keyword} {ks : List Str} {gV : List V → List V → List V} {t tk : TA} {te tf : TE} {p pos sp_ : Pos}
theorem pe_nR (c : MakR X.prog X.w X.K X.mg X.base k x C sp) (hr : Room j X.A) (hk : k + 1 ≤ j) (hg : Gl X x) (ha : PA X (e :: es) t) (hdb : (x == ("__debug__" : Str)) = false := by decide)
    (he : starEach (e :: es) X.env = (false, eval e X.env) :: starEach es X.env := by rfl) (hpl : (backTo pos (starEach es X.env)).any (·.1) = false := by rfl) : PE X (.Call (.Name x p) (e :: es) [] pos) (StX.tMakeR C sp E0 t) := by
  obtain ⟨f, F, M, g⟩ := c
  exact StX.pe_makeR M F (hr.mono hk) hg g pass0 ha hdb he hpl
theorem pe_nR0 (c : MakR X.prog X.w X.K X.mg X.base k x C sp) (hr : Room j X.A) (hk : k + 1 ≤ j) (hg : Gl X x) (hdb : (x == ("__debug__" : Str)) = false := by decide) : PE X (.Call (.Name x p) [] [] pos) (StX.tMakeR C sp E0 tNil) := by
  obtain ⟨f, F, M, g⟩ := c
  refine ⟨fun pins s σ H Q I h => ?_⟩
  refine wpAny_Call_Name_kw (ld_glob I hg g ?_ hdb)
  exact PySem.W.callWith_K0 I.kIn M.kp (StX.run_makeR (us := []) M F (hr.mono hk) pass0 I .nil h)
/-- C(*y) -/
def tMakeS (K : PySem.W.Frag) (C : Addr) (sp : Sp) (E : XK) (te : TE) : TE := fun σ H Q => te σ H fun y H1 => ∃ a xs, y = V.ref a ∧ (SqT K H1 a xs ∨ SqL K H1 a xs) ∧ ∀ x dx, H1 x = none → H1 dx = none → dx ≠ x →
  sp (V.ref x :: xs) (upd (upd H1 dx (.own x)) x (.ins C dx [])) (fun v H2 => v = .non ∧ Q (.ref x) H2) E
theorem pe_nRS (c : MakR X.prog X.w X.K X.mg X.base k x C sp) (hr : Room j X.A) (hk : k + 1 ≤ j) (hg : Gl X x) (he : PE X e te) (hd : (x == ("__debug__" : Str)) = false := by decide)
    (hst : starEach [.Starred e sp_] X.env = [(true, eval e X.env)] := by rfl) : PE X (.Call (.Name x p) [.Starred e sp_] [] pos) (tMakeS X.K C sp E0 te) := by
  obtain ⟨f, F, M, g⟩ := c
  refine ⟨fun pins s σ H Q I h => ?_⟩
  refine wpAny_Call_Name_kw (ld_glob I hg g ?_ hd)
  refine PySem.W.callWith_S (h₀ := X.base) I.ok.mod.kin M.kp (thn (he.run pins s σ H _ I h) fun v s1 ⟨y, H1, I1, ry, a, xs, ey, hxs, q⟩ => ?_) hst
  subst ey
  obtain rfl : v = Value.ref a := ry
  exact StX.star_any I1 hxs fun us s2 I2 rv => ⟨I2.kIn, StX.run_makeR M F (hr.mono hk) pass0 I2 rv q⟩
theorem pe_o (hf : PE X fe tf) (c : CalO X.prog X.w X.K X.mg X.base k C sp) (hr : Room j X.A) (hk : k ≤ j) (ha : PA X (e :: es) t)
    (ht : eval (.Call fe (e :: es) [] pos) X.env = (do callWith pos (← eval fe X.env) [] (backTo pos (starEach (e :: es) X.env)) (backToKw pos (keywordEach [] X.env))) := by rfl)
    (he : starEach (e :: es) X.env = (false, eval e X.env) :: starEach es X.env := by rfl) (hpl : (backTo pos (starEach es X.env)).any (·.1) = false := by rfl) : PE X (.Call fe (e :: es) [] pos) (StX.tCallO X C sp E0 tf t) := by
  obtain ⟨g, F, c⟩ := c
  exact StX.pe_callO hf c F (hr.mono hk) pass0 ha ht he hpl
theorem pe_oK (hf : PE X fe tf) (c : CalOK X.prog X.w X.K X.mg X.base k C ks gV sp) (hr : Room j X.A) (hk : k ≤ j) (hkw : PK X kws tk)
    (hall : (backToKw pos (keywordEach kws X.env)).all (·.1.isSome) = true := by rfl) (hks : (backToKw pos (keywordEach kws X.env)).filterMap (·.1) = ks := by rfl)
    (ht : eval (.Call fe [] kws pos) X.env = (do callWith pos (← eval fe X.env) [] (backTo pos (starEach [] X.env)) (backToKw pos (keywordEach kws X.env))) := by rfl)
    (hpl : ((backTo pos (starEach [] X.env)).any (·.1) || (backToKw pos (keywordEach kws X.env)).any (·.1.isNone)) = false := by rfl) : PE X (.Call fe [] kws pos) (tCallOK C ks.length gV sp E0 tf tk) := by
  obtain ⟨g, fd, ps, gg, F, c, b⟩ := c
  exact pe_callOK hf c F b (hr.mono hk) pass0 hkw hall hks ht hpl
theorem op_addS (c : CalS X.prog X.w X.K X.mg X.base k C "__add__" sp) (hc : PySem.W.selfFirst X.K C = true) (hr : Room j X.A) (hk : k ≤ j) : OpR X (binaryOp .Add) (rOpO X.K C "add" sp E0) := by
  obtain ⟨f, F, h1, h2⟩ := c
  exact op_addO hc h1 h2 F (hr.mono hk) pass0
theorem iop_addS (c : CalS X.prog X.w X.K X.mg X.base k C "__add__" sp) (hc : PySem.W.selfFirst X.K C = true) (ho : ∃ cd, PySem.W.clsIn X.K C = some cd ∧ cd.mro = [.ref C, .type "object"]) (hi : PySem.W.findIn X.K (.ref C) "__iadd__" = some none)
    (oi : PySem.W.findIn X.K (.type "object") "__iadd__" = some none) (hr : Room j X.A) (hk : k ≤ j) : OpR X (inplaceOp .Add) (rOpO X.K C "add" sp E0) := by
  obtain ⟨f, F, h1, h2⟩ := c
  exact iop_addO hc ho hi oi h1 h2 F (hr.mono hk) pass0
theorem call_lenS (c : CalS X.prog X.w X.K X.mg X.base k C "__len__" sp) (hr : Room j X.A) (hk : k + 1 ≤ j) : CallR X (.builtin "len") (rLenI C sp E0) := by
  obtain ⟨f, F, h1, h2⟩ := c
  exact call_lenI h1 h2 F (hr.mono hk) pass0
end
end UL
set_option Elab.async false
set_option linter.all false
set_option maxRecDepth 100000
set_option maxHeartbeats 4000000
namespace UL
open PySem L2
theorem join_len (a : Str) (ys : List Str) : (Txt.join a ys).length ≤ (ys.map (·.length)).sum + ys.length * a.length := by
  cases ys with
  | nil => exact Nat.zero_le _
  | cons y r =>
    show (Array.size _) ≤ _
    show (r.foldl (fun acc p => acc ++ a.cps ++ p.cps) y.cps).size ≤ _
    rw [PySem.size_gluedFold]
    simp only [List.map_cons, List.sum_cons, List.length_cons, Nat.add_mul]
    show y.length + _ + _ ≤ _
    omega
theorem listText_le (ts : List Str) : (listText ts).length ≤ (ts.map fun t => t.length + 2).sum + 2 := by
  cases ts with
  | nil => decide +kernel
  | cons t r =>
    have e : (listText (t :: r)).length = (textFrom 1 (("[" : Str) ++ (if (0 : Nat) > 0 then ", " else "" : String) ++ t) r).length + 1 := by
      show (textFrom 0 "[" (t :: r) ++ ("]" : Str)).length = _
      rw [Str.length_append]
      rfl
    rw [e, textFrom_length_pos _ _ _ (Nat.succ_pos 0)]
    have h1 : (("[" : Str) ++ ((if (0 : Nat) > 0 then ", " else "" : String) : Str) ++ t).length = 1 + t.length := by
      rw [Str.length_append, Str.length_append]
      rfl
    rw [h1]
    show 1 + t.length + (r.map fun t => t.length + 2).sum + 1 ≤ _
    simp only [List.map_cons, List.sum_cons]
    omega
theorem sum_le {α : Type} (f : α → Nat) (k : Nat) : ∀ l : List α, (∀ x ∈ l, f x ≤ k) → (l.map f).sum ≤ l.length * k
  | [], _ => by simp
  | x :: r, h => by
    have h1 := h x List.mem_cons_self
    have h2 := sum_le f k r fun y hy => h y (List.mem_cons_of_mem _ hy)
    simp only [List.map_cons, List.sum_cons, List.length_cons, Nat.add_mul]
    omega
/-! ### rows of bits -/
/-- a bit, None for an unknown one -/
abbrev Bt := Option Bool
def bV : Bt → V
  | none => .non
  | some false => .int 0
  | some true => .int 1
def bD : Bt → PyData
  | none => .none
  | some false => .int 0
  | some true => .int 1
theorem bD_dp {K : PySem.W.Frag} {H : Hp} (b : Bt) : Dp K H (bV b) (bD b) := by
  rcases b with _ | _ | _
  · exact .non
  · exact .int 0
  · exact .int 1
theorem bDs_dp {K : PySem.W.Frag} {H : Hp} : ∀ bs : List Bt, DpAll K H (bs.map bV) (bs.map bD)
  | [] => .nil
  | b :: bs => .cons (bD_dp b) (bDs_dp bs)
theorem shownAll_map : ∀ ds : List PyData, PyData.shownAll ds = ds.map PyData.shown
  | [] => by simp [PyData.shownAll]
  | d :: ds => by simp [PyData.shownAll, shownAll_map ds]
theorem bits_data (bs : List Bt) (h : bs.length ≤ 200) : (PyData.list (bs.map bD)).showable = true ∧ (PyData.list (bs.map bD)).hasDict = false ∧ (PyData.list (bs.map bD)).depth ≤ 40 ∧ (PyData.list (bs.map bD)).shown.length ≤ 4000 := by
  have h1 : ∀ bs : List Bt, PyData.showableAll (bs.map bD) = true := by
    intro bs
    induction bs with
    | nil => simp [PyData.showableAll]
    | cons b bs ih =>
      have : (bD b).showable = true := by rcases b with _ | _ | _ <;> decide +kernel
      simp [PyData.showableAll, ih, this]
  have h2 : ∀ bs : List Bt, PyData.hasDictAll (bs.map bD) = false := by
    intro bs
    induction bs with
    | nil => simp [PyData.hasDictAll]
    | cons b bs ih =>
      have : (bD b).hasDict = false := by rcases b with _ | _ | _ <;> decide +kernel
      simp [PyData.hasDictAll, ih, this]
  refine ⟨by simpa [PyData.showable] using h1 bs, by simpa [PyData.hasDict] using h2 bs, ?_, ?_⟩
  · have := depth_all (k := 0) (ds := bs.map bD) fun d hd => by
      obtain ⟨b, _, rfl⟩ := List.mem_map.mp hd
      rcases b with _ | _ | _ <;> simp [bD, PyData.depth]
    simp only [PyData.depth]
    omega
  · have e : (PyData.list (bs.map bD)).shown = listText (bs.map fun b => (bD b).shown) := by
      simp only [PyData.shown, shownAll_map, List.map_map]
      rfl
    rw [e]
    have h3 := listText_le (bs.map fun b => (bD b).shown)
    have h4 := sum_le (fun t : Str => t.length + 2) 6 (bs.map fun b => (bD b).shown) fun t ht => by
      obtain ⟨b, _, rfl⟩ := List.mem_map.mp ht
      rcases b with _ | _ | _ <;> decide +kernel
    rw [List.length_map] at h4
    omega
end UL
set_option Elab.async false
set_option linter.all false
set_option maxRecDepth 100000
set_option maxHeartbeats 4000000
namespace UL
open PySem PySem.Spec PyProof.Rows L2
def WalkE (J : It) (g : TG) (tb : TS) (D : Ends) (σ : L2.St) (H : Hp) : Prop := ∃ W : Nat → Nat → L2.St → Hp → Prop, (∃ m, W 0 m σ H) ∧ ∀ i m σ H, W i m σ H →
      (J.stop i H ∧ D.nx σ H) ∨ (J.go i H ∧ ∃ N : L2.St → Hp → Prop, (∀ σ' H', N σ' H' → ∃ m', m' < m ∧ W (i + 1) m' σ' H') ∧ ∀ x H', J.yld i H x H' → g x σ H' fun σ2 H2 => tb { D with nx := N, ct := N, bk := D.nx } σ2 H2)
/-- a walk over enumerate of a list or a tuple -/
theorem for_enumB {K : PySem.W.Frag} {a : Addr} {xs : List V} {g : TG} {tb : TS} {D : Ends} {σ : L2.St} {H : Hp} (Pv : Nat → L2.St → Hp → Prop) (h0 : Pv 0 σ H) (hl : (∀ i σ H, Pv i σ H → SqL K H a xs) ∨ ∀ i σ H, Pv i σ H → SqT K H a xs)
    (hs : ∀ i x σ H T, xs[i]? = some x → Pv i σ H → H T = none → g (.ref T) σ (upd H T (.tup [.int (i : Nat), x])) fun σ2 H2 => tb { D with nx := Pv (i + 1), ct := Pv (i + 1), bk := D.nx } σ2 H2) (hd : ∀ σ H, Pv xs.length σ H → D.nx σ H) :
    (SqL K H a xs ∧ WalkE (Ite K a) g tb D σ H) ∨ (SqT K H a xs ∧ WalkE (Itet K a) g tb D σ H) := by
  rcases hl with hl | hl
  · exact .inl ⟨hl 0 σ H h0, for_enumL Pv h0 (fun i σ H _ p => hl i σ H p) hs hd⟩
  · exact .inr ⟨hl 0 σ H h0, for_enumT Pv h0 (fun i σ H _ p => hl i σ H p) hs hd⟩
end UL
set_option Elab.async false
set_option linter.all false
set_option maxRecDepth 100000
set_option maxHeartbeats 4000000
namespace UL
open PySem PySem.Spec PyProof.Rows L2
section
variable {X : Cx} {k j : Nat} {m : Str} {C : Addr} {sp : Sp} {o : Expr} {ta : TE} {pos apos : Pos}
theorem pe_m0 {pl : Sem Bool} (he : PE X o ta) (c : CalM X.prog X.w X.K X.mg X.base k C m sp) (hr : Room j X.A) (hk : k ≤ j)
    (ht : eval (.Call (.Attribute o m apos) [] [] pos) X.env = (do
      let ov ← eval o X.env
      standAt apos.atName
      let (f, first) ← holding [ov] (getMethod ov m pl)
      callWith pos f first (backTo pos (starEach [] X.env)) (backToKw pos (keywordEach [] X.env))) := by rfl) :
    PE X (.Call (.Attribute o m apos) [] [] pos) (tMeth C m sp [] E0 ta tNil) := by
  obtain ⟨f, fd, ps, F, cl, mt, b⟩ := c
  exact pe_meth0 he cl mt F (hr.mono hk) b .nil pass0 ht
end
/-! ### rows of a word and a number, as data -/
theorem eqv_list (ds es : List PyData) : PyData.eqv (.list ds) (.list es) = PyData.eqvAll ds es := by simp only [PyData.eqv]
end UL
set_option Elab.async false
set_option linter.all false
set_option maxRecDepth 100000
set_option maxHeartbeats 4000000
namespace HT
open PySem PySem.Spec PyProof.Rows
theorem rev_pick (xs : Array Value) : ((List.range xs.size).filterMap fun (m : Nat) => xs[(((xs.size : Int) - 1) + (m : Int) * (-1)).toNat]?) = xs.toList.reverse := by
  refine List.ext_getElem? fun i => ?_
  have e : ((List.range xs.size).filterMap fun (m : Nat) => xs[(((xs.size : Int) - 1) + (m : Int) * (-1)).toNat]?) = (List.range xs.size).pmap (fun m (h : m < xs.size) => xs[xs.size - 1 - m]) (fun m hm => List.mem_range.mp hm) := by
    have : ∀ (l : List Nat) (hl : ∀ m ∈ l, m < xs.size), (l.filterMap fun (m : Nat) => xs[(((xs.size : Int) - 1) + (m : Int) * (-1)).toNat]?) = l.pmap (fun m (h : m < xs.size) => xs[xs.size - 1 - m]) hl := by
      intro l
      induction l with
      | nil => intro _; rfl
      | cons m l ih =>
        intro hl
        have hm := hl m List.mem_cons_self
        have e1 : (((xs.size : Int) - 1) + (m : Int) * (-1)).toNat = xs.size - 1 - m := by omega
        rw [List.filterMap_cons, e1, Array.getElem?_eq_getElem (by omega)]
        simp only [List.pmap_cons]
        rw [ih fun k hk => hl k (List.mem_cons_of_mem _ hk)]
    exact this _ _
  rw [e]
  by_cases c : i < xs.size
  · rw [List.getElem?_reverse (by simpa using c)]
    simp [c]
  · rw [List.getElem?_eq_none (by simp; omega), List.getElem?_eq_none (by simp; omega)]
section
variable {prog : Program} {w : World} {A : Around} {E : Value → Shared → Prop} {s : Shared}
theorem sliceApplied_rev {sl : Addr} {vl vu vs : Value} {n : Nat} {Q : Int × Int × Nat → Shared → Prop} (hs : s.heap.IsSliceOf sl vl vu vs) (pl : IsPart vl none) (pu : IsPart vu none) (ps : IsPart vs (some (-1)))
    (h : Q (((n : Int) - 1), -1, n) s) : wpAny (model prog w) A (Builtin.Slice.sliceApplied (.ref sl) (pure (n : Int))) Q E s := by
  obtain ⟨os, hos, hcs, hds⟩ := id hs
  unfold Builtin.Slice.sliceApplied Builtin.Slice.sliceFields
  refine wpAny_bind (wpAny_bind (wpAny_field hos hds (x := vl) rfl (wpAny_bind (wpAny_field hos hds (x := vu) rfl (wpAny_bind (wpAny_field hos hds (x := vs) rfl (wpAny_pure ?_)))))))
  refine wpAny_bind (slicePart_ ps ?_)
  show wpAny _ _ (if ((-1 : Int) == 0) = true then _ else _) _ _ s
  rw [if_neg (by decide)]
  refine wpAny_bind (slicePart_ pl (wpAny_bind (slicePart_ pu (wpAny_bind (wpAny_pure ?_)))))
  have e1 : Builtin.Slice.sliceAdjust none none (-1) (n : Int) = ((n : Int) - 1, -1) := rfl
  have e2 : Builtin.Slice.slicePlaces ((n : Int) - 1) (-1) (-1) = n := by
    unfold Builtin.Slice.slicePlaces
    rw [if_neg (by decide)]
    by_cases c : (n : Int) - 1 > -1
    · rw [if_pos c]
      show ((((n : Int) - 1) - (-1) - 1) / 1 + 1).toNat = n
      rw [Int.ediv_one]
      omega
    · rw [if_neg c]
      omega
  show wpAny _ _ (match Builtin.Slice.sliceAdjust none none (-1) (n : Int) with | (lo, hi) => pure (lo, (-1 : Int), Builtin.Slice.slicePlaces lo hi (-1))) _ _ s
  rw [e1]
  show wpAny _ _ (pure (((n : Int) - 1), (-1 : Int), Builtin.Slice.slicePlaces ((n : Int) - 1) (-1) (-1))) _ _ s
  rw [e2]
  exact wpAny_pure h
theorem getItem_tuple_rev {t sl : Addr} {items : Array Value} {vl vu vs : Value} {Q : Value → Shared → Prop} (ht : IsTup s.heap t items) (hs : s.heap.IsSliceOf sl vl vu vs) (pl : IsPart vl none) (pu : IsPart vu none) (ps : IsPart vs (some (-1)))
    (h : Q (.ref s.heap.objs.size) { s with heap := s.heap.push { cls := .type "tuple", data := .seq items.toList.reverse.toArray } })
    (hsz : items.size ≤ sizeLine) : wpAny (model prog w) A (getItem (.ref t) (.ref sl)) Q E s := by
  have htake : sizeOk (.seq items.toList.reverse.toArray) := by
    show items.toList.reverse.toArray.size ≤ sizeLine
    rw [List.size_toArray, List.length_reverse, Array.length_toList]
    exact hsz
  obtain ⟨os, hos, hcs, hds⟩ := id hs
  have hTs : s.TypeIs (.ref sl) "slice" := ⟨os, hos, hcs⟩
  unfold getItem
  try with_reducible refine wpAny_holding ?_
  first | refine wpAny_bind (wpAny_pure ?_) | skip
  refine wpAny_bind (wpAny_sequenceKey ht.typeIs (by decide) ?_)
  refine wpAny_bind (wpAny_callSpecial?_slot (name := Str.ofString "__getitem__") ht.typeIs PyProof.Rows.slot_tuple_getitem
    (wpAny_call_entry PyProof.Rows.slot_tuple_getitem ht.typeIs entry_tuple_getitem ?_ (args_tuple_getitem _ _)))
  show wpAny _ _ (Builtin.Tuple.tupleItemsOf (.ref t) >>= _) _ _ s
  refine wpAny_bind (tupleItemsOf_ ht ?_)
  refine wpAny_bind (wpAny_typeOf hTs ?_)
  rw [if_pos (by decide)]
  refine wpAny_bind (sliceApplied_rev hs pl pu ps ?_)
  have hno : ¬ ((((items.size : Int) - 1) == 0 && (-1 : Int) == 1 && items.size == items.size) = true) := by simp
  show wpAny _ _ (if (((items.size : Int) - 1) == 0 && (-1 : Int) == 1 && items.size == items.size) = true then _ else _) _ _ s
  rw [if_neg hno, rev_pick]
  first
    | exact wpAny_bind (m := Builtin.Tuple.tupleExact _) (wpAny_newObj_type (wpAny_pure ⟨_, rfl, wpAny_pure h⟩) htake)
    | exact wpAny_bind (m := Builtin.Tuple.tupleExact _) (wpAny_newObj_type (wpAny_bind (wpAny_pure (wpAny_pure ⟨_, rfl, wpAny_pure h⟩))) htake)
    | exact wpAny_bind (wpAny_bind (m := Builtin.Tuple.tupleExact _) (wpAny_newObj_type (wpAny_pure (wpAny_pure ⟨_, rfl, wpAny_pure h⟩)) htake))
    | exact wpAny_bind (wpAny_bind (m := Builtin.Tuple.tupleExact _) (wpAny_newObj_type (wpAny_pure ⟨_, rfl, wpAny_pure h⟩) htake))
end
end HT
namespace UL
open PySem PySem.Spec PyProof.Rows L2
section
variable {X : Cx}
/-- t[::-1], t a tuple -/
def tRevT (K : PySem.W.Frag) (te : TE) : TE := fun σ H Q => te σ H fun x H1 => ∃ a xs, x = .ref a ∧ SqT K H1 a xs ∧ ∀ p, H1 p = none → Q (.ref p) (upd H1 p (.tup xs.reverse))
theorem pe_revT {e : Expr} {te : TE} {k : Nat} {p1 p2 p3 pos : Pos} (he : PE X e te) : PE X (.Subscript e (.Slice none none (some (.UnaryOp .USub (.Constant (.int 1) k p1) p2)) p3) pos) (tRevT X.K te) := by
  refine ⟨fun pins s σ H Q I h => ?_⟩
  refine Subscript_ (thn (he.run pins s σ H _ I h) fun v s1 ⟨x, H1, I1, r1, q1⟩ => ?_)
  obtain ⟨a, xs, ex, hx, q⟩ := q1
  subst ex
  cases r1
  have hst : PO X (some (.UnaryOp .USub (.Constant (.int 1) k p1) p2)) (tPart (tUn (rU fun i => .int (-i)) (tC (.int 1)))) := po_some (pe_un un_neg pe_int)
  refine wpAny_Slice (thn (po_none.run pins s1 σ H1 (fun o H2 => o = none ∧ H2 = H1) I1 ⟨rfl, rfl⟩) fun vl s2 ⟨l, H2, I2, pl, el, e2⟩ => ?_)
  subst el e2
  refine thn (po_none.run pins s2 σ H2 (fun o H3 => o = none ∧ H3 = H2) I2 ⟨rfl, rfl⟩) fun vu s3 ⟨u, H3, I3, pu, eu, e3⟩ => ?_
  subst eu e3
  refine thn (hst.run pins s3 σ H3 (fun o H4 => o = some (-1) ∧ H4 = H3) I3 ⟨1, rfl, -1, rfl, rfl, rfl⟩) fun vs s4 ⟨o, H4, I4, ps, eo, e4⟩ => ?_
  subst eo e4
  have I5 : Inv X pins σ H4 { s4 with heap := s4.heap.push { cls := .type "slice", data := .fields #[vl, vu, vs] } } := I4.kept (t' := s4.toks) fun b ob q => Heap.get?_push_of_some _ q
  obtain ⟨its, r, ht, hz⟩ := I5.tuple hx
  have hlen := r.length
  show wpAny (model X.prog X.w) X.A (subscriptTail e (.Slice none none (some (.UnaryOp .USub (.Constant (.int 1) k p1) p2)) p3) (.ref a) (.ref s4.heap.objs.size)) (EP X pins σ Q) X.xe { s4 with heap := s4.heap.push { cls := .type "slice", data := .fields #[vl, vu, vs] } }
  refine tail_any (ops := [.ref a, .ref s4.heap.objs.size]) ht.typeIs (PyProof.Rows.slot_tuple_getitem.lookup) ?_ (by with_unfolding_all rfl)
  refine HT.getItem_tuple_rev ht (Heap.IsSliceOf.new _ vl vu vs) pl pu ps ?_ (by rw [List.size_toArray]; omega)
  refine ⟨.ref _, _, I5.laid (t' := s4.toks) (o := .tup xs.reverse) (fun b ob q => Heap.get?_push_of_some _ q) (Nat.le_refl _) ?_, rfl, q _ (I5.hok.fresh (Nat.le_refl _))⟩
  exact ⟨by show xs.reverse.length ≤ sizeLine; rw [List.length_reverse]; exact hz, _, r.reverse, ⟨_, Heap.get?_push_size _ rfl, rfl, _, rfl⟩⟩
end
end UL
set_option Elab.async false
set_option linter.all false
set_option maxRecDepth 100000
set_option maxHeartbeats 4000000
namespace UL
open PySem L2
/-! ### unlike rows have unlike texts -/
def tok : Bt → List Nat
  | none => [78, 111, 110, 101]
  | some false => [48]
  | some true => [49]
def encT : List Bt → List Nat
  | [] => [93]
  | x :: xs => 44 :: 32 :: (tok x ++ encT xs)
def enc : List Bt → List Nat
  | [] => [91, 93]
  | x :: xs => 91 :: (tok x ++ encT xs)
theorem encT_inj : ∀ {xs ys : List Bt}, encT xs = encT ys → xs = ys
  | [], [], _ => rfl
  | [], y :: ys, h => by simp [encT] at h
  | x :: xs, [], h => by simp [encT] at h
  | x :: xs, y :: ys, h => by
    have h' : tok x ++ encT xs = tok y ++ encT ys := by
      simp only [encT, List.cons.injEq, true_and] at h
      exact h
    have e : x = y ∧ encT xs = encT ys := by
      rcases x with _ | _ | _ <;> rcases y with _ | _ | _ <;> simp [tok] at h' <;> exact ⟨rfl, h'⟩
    rw [e.1, encT_inj e.2]
theorem enc_inj {xs ys : List Bt} (h : enc xs = enc ys) : xs = ys := by
  cases xs with
  | nil =>
    cases ys with
    | nil => rfl
    | cons y ys =>
      rcases y with _ | _ | _ <;> simp [enc, tok] at h
  | cons x xs =>
    cases ys with
    | nil => rcases x with _ | _ | _ <;> simp [enc, tok] at h
    | cons y ys =>
      apply encT_inj
      simp only [enc, List.cons.injEq, true_and] at h
      simp only [encT, h]
theorem tok_shown (x : Bt) : ((bD x).shown).cps.toList = tok x := by rcases x with _ | _ | _ <;> decide +kernel
theorem cps_app (a b : Str) : (a ++ b).cps.toList = a.cps.toList ++ b.cps.toList := by
  show (a.cps ++ b.cps).toList = _
  simp
theorem text_tail : ∀ (xs : List Bt) (k : Nat) (acc : Str), 0 < k → (textFrom k acc (xs.map fun b => (bD b).shown) ++ ("]" : Str)).cps.toList = acc.cps.toList ++ encT xs
  | [], k, acc, _ => by
    show (acc ++ ("]" : Str)).cps.toList = _
    rw [cps_app]
    rfl
  | x :: xs, k, acc, h => by
    show (textFrom (k + 1) (acc ++ ((if k > 0 then ", " else "" : String) : Str) ++ (bD x).shown) (xs.map fun b => (bD b).shown) ++ ("]" : Str)).cps.toList = _
    rw [text_tail xs (k + 1) _ (Nat.succ_pos k), if_pos h, cps_app, cps_app, tok_shown, List.append_assoc, List.append_assoc]
    rfl
theorem text_enc (xs : List Bt) : (listText (xs.map fun b => (bD b).shown)).cps.toList = enc xs := by
  cases xs with
  | nil => decide +kernel
  | cons x xs =>
    show (textFrom 1 (("[" : Str) ++ ((if (0 : Nat) > 0 then ", " else "" : String) : Str) ++ (bD x).shown) (xs.map fun b => (bD b).shown) ++ ("]" : Str)).cps.toList = _
    rw [text_tail xs 1 _ (by decide), cps_app, cps_app, tok_shown]
    rfl
theorem shown_bits (xs : List Bt) : (PyData.list (xs.map bD)).shown = listText (xs.map fun b => (bD b).shown) := by
  simp only [PyData.shown, shownAll_map, List.map_map]
  rfl
theorem shown_inj {xs ys : List Bt} : decide (V.str (PyData.list (xs.map bD)).shown = V.str (PyData.list (ys.map bD)).shown) = decide (xs = ys) := by
  by_cases h : xs = ys
  · subst h
    rw [decide_eq_true rfl, decide_eq_true rfl]
  · rw [decide_eq_false h]
    refine decide_eq_false fun e => h (enc_inj ?_)
    have e1 := V.str.inj e
    rw [shown_bits, shown_bits] at e1
    rw [← text_enc, ← text_enc, e1]
end UL
set_option Elab.async false
set_option linter.all false
set_option maxRecDepth 100000
set_option maxHeartbeats 4000000
namespace UL
open PySem PySem.Spec PyProof.Rows L2
section
variable {X : Cx}
/-- o[a:b] = v, o and v two tracked lists -/
def gSlset (to ta tb : TE) : TG := fun v σ H Q => to σ H fun o H1 => tPart ta σ H1 fun oa H2 => tPart tb σ H2 fun ob H3 => ∃ (l q : Addr) (xs ys : List V) (a b : Int), o = .ref l ∧ oa = some a ∧ ob = some b ∧ v = .ref q ∧ H3 l = some (.lst xs) ∧ H3 q = some (.lst ys) ∧ l ≠ q ∧
  0 ≤ a ∧ a ≤ b ∧ b ≤ xs.length ∧ xs.length + ys.length ≤ sizeLine ∧ Q σ (upd H3 l (.lst (xs.take a.toNat ++ ys ++ xs.drop b.toNat)))
theorem pg_slset {o a b : Expr} {to ta tb : TE} {p2 pos : Pos} (ho : PE X o to) (ha : PE X a ta) (hb : PE X b tb)
    (he : ∀ v, assign (.Subscript o (.Slice (some a) (some b) none p2) pos) X.env v = (do
      let ov ← holding [v] (eval o X.env)
      let iv ← holding [v, ov] (eval (.Slice (some a) (some b) none p2) X.env)
      standAt pos
      holding [v, ov, iv] (setItem ov iv v)
      release [iv, v, ov] []) := by intro _; rfl) : PG X (.Subscript o (.Slice (some a) (some b) none p2) pos) (gSlset to ta tb) := by
  refine ⟨fun pins s σ H v u Q I r h => ?_⟩
  rw [he]
  refine wpAny_bind (wpAny_holding (thn (ho.run pins s σ H _ I h) fun ov s1 ⟨x, H1, I1, r1, q1⟩ => ?_))
  refine wpAny_bind (wpAny_holding (wpAny_Slice (thn ((po_some ha).run pins s1 σ H1 _ I1 q1) fun vl s2 ⟨lo, H2, I2, pl, q2⟩ => thn ((po_some hb).run pins s2 σ H2 _ I2 q2) fun vu s3 ⟨hi, H3, I3, pu, q3⟩ => ?_)))
  rw [evalPart_none]
  refine wpAny_pure ?_
  obtain ⟨l, q, xs, ys, a', b', rfl, rfl, rfl, rfl, e1, e2, ne, g1, g2, g3, g4, k⟩ := q3
  have I4 : Inv X pins σ H3 { s3 with heap := s3.heap.push { cls := .type "slice", data := .fields #[vl, vu, .none] } } := I3.kept (t' := s3.toks) fun b ob q => Heap.get?_push_of_some _ q
  cases (show ov = Value.ref l from r1)
  cases (show u = Value.ref q from r)
  refine wpAny_bind (wpAny_standAt (wpAny_bind (wpAny_holding ?_)))
  refine set_slice (X := X) (pins := pins) (σ := σ) (a := a') (c := b') I4 e1 e2 ne (Heap.IsSliceOf.new ..) ?_ ?_ g1 g2 g3 g4 fun s5 I5 => wpAny_release ⟨σ, _, I5, k⟩
  · cases pl
    exact ⟨_, rfl⟩
  · cases pu
    exact ⟨_, rfl⟩
end
end UL
set_option Elab.async false
set_option linter.all false
set_option maxRecDepth 100000
set_option maxHeartbeats 4000000
namespace UL
open PySem L2
theorem Same.look {H H' : Hp} {a : Addr} {o : HO} (s : L2.Same H H') (h : H a = some o) : H' a = some o := s _ _ h
theorem new_look {H : Hp} {p a : Addr} {o o' : HO} (hp : H p = none) (h : H a = some o) : upd H p o' a = some o := by rw [upd_ne (ne_of_none h hp)]; exact h
theorem Stay.lookT {H H' : Hp} {p a : Addr} {xs : List V} (s : Stay p H H') (hp : Pot H p) (h : H a = some (.tup xs)) : H' a = some (.tup xs) := by
  obtain ⟨x, y, e, _⟩ := hp
  exact s _ _ (ne_of h e (by intro z; cases z)) h
theorem Stay.lookI {H H' : Hp} {p a C dx : Addr} {fs : List (Str × V)} (s : Stay p H H') (hp : Pot H p) (h : H a = some (.ins C dx fs)) : H' a = some (.ins C dx fs) := by
  obtain ⟨x, y, e, _⟩ := hp
  exact s _ _ (ne_of h e (by intro z; cases z)) h
theorem iteFo' {c : Bool} {A B : Prop} (hc : c = false) (h : B) : if c = true then A else B := by rw [if_neg (by rw [hc]; exact Bool.false_ne_true)]; exact h
theorem iteTo' {c : Bool} {A B : Prop} (hc : c = true) (h : A) : if c = true then A else B := by rw [if_pos hc]; exact h
theorem over_look {H : Hp} {x p : Addr} {o u : HO} (n : p ≠ x) (h : H p = some u) : upd H x o p = some u := by rw [upd_ne n]; exact h
theorem ne_new {H : Hp} {a b : Addr} {o : HO} (hb : H b = none) (ha : H a = some o) : b ≠ a := fun e => by rw [e, ha] at hb; cases hb
theorem up_none {H : Hp} {x p : Addr} {o : HO} (h : upd H x o p = none) : H p = none := by
  by_cases e : p = x
  · rw [e, upd_same] at h
    cases h
  · rw [upd_ne e] at h
    exact h
theorem Same.none {H H' : Hp} {p : Addr} (s : L2.Same H H') (h : H' p = none) : H p = none := by
  cases e : H p with
  | none => rfl
  | some o =>
    rw [s _ _ e] at h
    cases h
theorem Stay.same {H H' : Hp} {p : Addr} (s : Stay p H H') (h : H p = none) : L2.Same H H' := fun b o e => s b o (ne_of_none e h) e
/-- both ways of a conditional expression hand on one value -/
theorem ite_val {c : Bool} {ta tb : TE} {σ : L2.St} {H : Hp} {Q : VK} (v : V) (ha : c = true → ∀ Q : VK, Q v H → ta σ H Q) (hb : c = false → ∀ Q : VK, Q v H → tb σ H Q) (h : Q v H) : if c = true then ta σ H Q else tb σ H Q := by
  cases c with
  | true => rw [if_pos rfl]; exact ha rfl Q h
  | false => rw [if_neg Bool.false_ne_true]; exact hb rfl Q h
theorem ite_and {c : Bool} {t : TT} {σ : L2.St} {H : Hp} {Q : Bool → Hp → Prop} (b : Bool) (ha : c = true → ∀ Q : Bool → Hp → Prop, Q b H → t σ H Q) (hb : c = false → b = false) (h : Q b H) : if c = true then t σ H Q else Q false H := by
  cases c with
  | true => rw [if_pos rfl]; exact ha rfl Q h
  | false => rw [if_neg Bool.false_ne_true, ← hb rfl]; exact h
theorem ite_or {c : Bool} {t : TT} {σ : L2.St} {H : Hp} {Q : Bool → Hp → Prop} (b : Bool) (ha : c = false → ∀ Q : Bool → Hp → Prop, Q b H → t σ H Q) (hb : c = true → b = true) (h : Q b H) : if c = true then Q true H else t σ H Q := by
  cases c with
  | false => rw [if_neg Bool.false_ne_true]; exact ha rfl Q h
  | true => rw [if_pos rfl, ← hb rfl]; exact h
/-- both ways of an if go on from one place -/
theorem ite_st {c : Bool} {ta tb : TS} {D : Ends} {σ : L2.St} {H : Hp} (σ' : L2.St) (H' : Hp) (ha : c = true → ∀ D : Ends, D.nx σ' H' → ta D σ H) (hb : c = false → ∀ D : Ends, D.nx σ' H' → tb D σ H) (h : D.nx σ' H') : if c = true then ta D σ H else tb D σ H := by
  cases c with
  | true => rw [if_pos rfl]; exact ha rfl D h
  | false => rw [if_neg Bool.false_ne_true]; exact hb rfl D h
end UL
set_option Elab.async false
set_option linter.all false
set_option maxRecDepth 100000
set_option maxHeartbeats 4000000
namespace UL
open PySem PySem.Spec PyProof.Rows L2 StX
/-! ### classes made: with keywords behind what is written, with stars, by keywords where the rest is a star -/
section
variable (P : Program) (w : World) (K : PySem.W.Frag) (mg : Str → Option Value) (base : Heap)
/-- n values, then the keywords ks -/
def MakN (k : Nat) (x : Str) (C : Addr) (n : Nat) (ks : List Str) (gV : List V → List V → List V) (sp : Sp) : Prop := ∃ f fd ps g, FnOk P w K mg base CX0 k f fd ps sp ∧ Mk K C f ∧ mg x = some (.ref C) ∧ KBn K fd ps (n + 1) ks g gV
/-- a def run with one value and the keywords ks -/
def FnKw (k : Nat) (f : Addr) (ks : List Str) (sp : Sp) : Prop := ∀ (A : Around) (outer : List Env) (s : Shared) (H : Hp) (u : Value) (v : V) (ws : List Value) (zs : List V) (Q : VK), Room k A → Env0 P w K mg base A outer s H → RelV v u → Vals zs ws → zs.length = ks.length →
  sp (v :: zs) H Q E0 → codeAny (model P w) A (.call (.ref f) ⟨[u], ks.zip ws⟩) (CR CX0 outer P w H s Q E0) s
def MakW (k : Nat) (x : Str) (C : Addr) (ks : List Str) (sp : Sp) : Prop := ∃ f, FnKw P w K mg base k f ks sp ∧ Mk K C f ∧ mg x = some (.ref C)
end
section
variable {X : Cx} {k j n : Nat} {x : Str} {C : Addr} {sp : Sp} {e : Expr} {es : List Expr} {kws : List Keyword} {ks : List Str} {gV : List V → List V → List V} {t tk : TA} {p pos : Pos}
theorem pe_nN (c : MakN X.prog X.w X.K X.mg X.base k x C n ks gV sp) (hr : Room j X.A) (hk : k + 1 ≤ j) (hg : Gl X x) (ha : PA X (e :: es) t) (hkw : PK X kws tk)
    (h1 : (backToKw pos (keywordEach kws X.env)).all (·.1.isSome) = true := by rfl) (h2 : (backToKw pos (keywordEach kws X.env)).filterMap (·.1) = ks := by rfl) (h3 : (x == ("__debug__" : Str)) = false := by decide)
    (h4 : starEach (e :: es) X.env = (false, eval e X.env) :: starEach es X.env := by rfl)
    (h5 : ((backTo pos (starEach (e :: es) X.env)).any (·.1) || (backToKw pos (keywordEach kws X.env)).any (·.1.isNone)) = false := by rfl) :
    PE X (.Call (.Name x p) (e :: es) kws pos) (tMakeN C n ks.length sp gV E0 t tk) := by
  obtain ⟨f, fd, ps, g, F, M, m, b⟩ := c
  exact pe_makeN M F (hr.mono hk) hg m b pass0 ha hkw h1 h2 h3 h4 h5
/-- C(e, .., *y) -/
theorem pe_nR2 (c : MakR X.prog X.w X.K X.mg X.base k x C sp) (hr : Room j X.A) (hk : k + 1 ≤ j) (hg : Gl X x) (ha : PA X (e :: es) t) (h3 : (x == ("__debug__" : Str)) = false := by decide)
    (h4 : starEach (e :: es) X.env = (false, eval e X.env) :: starEach es X.env := by rfl) (h5 : (backTo pos (starEach es X.env)).any (·.1) = true := by rfl) : PE X (.Call (.Name x p) (e :: es) [] pos) (StX.tMakeR C sp E0 t) := by
  obtain ⟨f, F, M, m⟩ := c
  refine ⟨fun pins s σ H Q I h => wpAny_Call_Name_kw (ld_glob I hg m ?_ h3)⟩
  exact PySem.W.callWith_S2 (h₀ := X.base) I.ok.mod.kin M.kp (thn (ha.run pos pins s σ H _ I h) fun us s1 ⟨vs, H1, J, rv, q⟩ => ⟨J.kIn, StX.run_makeR M F (hr.mono hk) pass0 J rv q⟩) h4 h5
/-- C(k = v, ..), the class's rest a star -/
def tMakeW (C : Addr) (m : Nat) (sp : Sp) (tk : TA) : TE := fun σ H Q => tk σ H fun zs H1 => zs.length = m ∧ ∀ x dx, H1 x = none → H1 dx = none → dx ≠ x → sp (V.ref x :: zs) (upd (upd H1 dx (.own x)) x (.ins C dx [])) (fun v H2 => v = .non ∧ Q (.ref x) H2) E0
theorem pe_nW (c : MakW X.prog X.w X.K X.mg X.base k x C ks sp) (hr : Room j X.A) (hk : k + 1 ≤ j) (hg : Gl X x) (hkw : PK X kws tk)
    (h1 : (backToKw pos (keywordEach kws X.env)).all (·.1.isSome) = true := by rfl) (h2 : (backToKw pos (keywordEach kws X.env)).filterMap (·.1) = ks := by rfl) (h3 : (x == ("__debug__" : Str)) = false := by decide)
    (h5 : ((backTo pos (starEach [] X.env)).any (·.1) || (backToKw pos (keywordEach kws X.env)).any (·.1.isNone)) = false := by rfl) : PE X (.Call (.Name x p) [] kws pos) (tMakeW C ks.length sp tk) := by
  obtain ⟨f, F, M, m⟩ := c
  refine ⟨fun pins s σ H Q I h => wpAny_Call_Name_kw (ld_glob I hg m (PySem.W.callWith_KW0 (h₀ := X.base) I.ok.mod.kin M.kp h1 (thn (hkw.run pos pins s σ H _ I h) fun ws s1 ⟨zs, H1, J, rz, l2, q⟩ => ⟨J.kIn, ?_⟩) h5) h3)⟩
  rw [h2]
  have hq := q (s1.heap.objs.size + 1) s1.heap.objs.size (J.hok.fresh (Nat.le_succ _)) (J.hok.fresh (Nat.le_refl _)) (Nat.ne_of_lt (Nat.lt_succ_self _))
  have J2 := Inv.made (C := C) J
  have hr' := hr.mono hk
  refine wpAny_call (make_map (f := f) J.kIn M.makes M.init (beq_iff_eq.mp M.fn) (codeAny_mono (F _ X.stack _ _ (Value.ref (s1.heap.objs.size + 1)) (V.ref (s1.heap.objs.size + 1)) ws zs _ (hr'.make C [] (ks.zip ws)) (J2.env0.make C [] (ks.zip ws)) rfl rz l2 hq) fun r s' hz => ?_))
  cases r with
  | error e => exact pass0 pins σ _ _ e s' J2 hz
  | ok fl =>
    cases fl with
    | ret u =>
      obtain ⟨v, H', J3, rv, ev, qz⟩ := J2.after hz
      subst ev
      exact ⟨rv, ⟨V.ref (s1.heap.objs.size + 1), H', J3, rfl, qz⟩⟩
    | next => exact hz.elim
    | brk => exact hz.elim
    | cont => exact hz.elim
end
/-- def f(self, a, .., *v) called by self and the keywords of a, ..: v is an empty tuple -/
theorem fnKw_star {P : Program} {w : World} {K : PySem.W.Frag} {mg : Str → Option Value} {base : Heap} {k : Nat} {f : Addr} {name qual : Str} {params : Arguments} {body : List Stmt} {scope : Scope} {dV kV doc pm cdv ct oc : Value} {an od : Option Addr}
    {osl : Array (Option Value)} {N ps ks : List Str} {p0 pv : Str} {sp : Sp} (lk : K.lookup f = some ⟨oc, od, .func (PySem.W.fnOf name qual params body scope dV kV doc pm an cdv ct), osl⟩) (hcd : PySem.W.codeIn K cdv qual = true) (S : FnScope N (p0 :: (ks ++ [pv])) scope)
    (hb : ∀ (u : Value) (ws : List Value), ws.length = ks.length → bindArgs (PySem.W.fnOf name qual params body scope dV kV doc pm an cdv ct) ⟨[u], ks.zip ws⟩ = (newTuple [] >>= fun t => pure ((p0, u) :: (ks.zip ws ++ [(pv, t)]))))
    (hbody : ∀ (A : Around) (outer : List Env) (s : Shared) (H : Hp) (vs : List V) (Q : VK) (E : XK), Room k (A.deeper (envOfC qual scope s.heap.objs.size f cdv)) → sp vs H Q E →
      ∃ t, PSs (cxOf CX0 P w K mg base N qual scope f cdv A outer s H E) body t ∧ t { nx := fun _ H' => Q .non H', rt := Q } (start N vs) H) :
    FnKw P w K mg base (k + 1) f ks (fun vs H Q E => vs.length = ks.length + 1 ∧ ∀ p, H p = Option.none → sp (vs ++ [V.ref p]) (upd H p (.tup [])) Q E) := by
  intro A outer s H u v ws zs Q hr e0 ru rz hl h
  have fr : H s.heap.objs.size = Option.none := e0.hok.fresh (Nat.le_refl _)
  refine run_bnd lk hcd S hr e0 (G := fun xs H2 => ∃ p, H p = Option.none ∧ xs = v :: (zs ++ [V.ref p]) ∧ H2 = upd H p (.tup [])) (fun A' Ex Q' z => ?_) fun s2 H2 xs ⟨p, hp, e1, e2⟩ hr' => ?_
  · rw [hb u ws (rz.length.symm.trans hl)]
    refine wpAny_bind (wpAny_newTuple (wpAny_pure ?_) (Nat.zero_le _))
    have new : ObjOk P w (upd H s.heap.objs.size (.tup [])) (s.heap.push ({ cls := .type "tuple", data := .seq (#[] : Array Value) } : Obj)) s.heap.objs.size (.tup []) := ⟨Nat.zero_le _, [], .nil, ⟨_, Heap.get?_push_size _ rfl, rfl, _, rfl⟩⟩
    have lai := un_laid (fs := frs outer) (s := s) (o := ({ cls := .type "tuple", data := .seq (#[] : Array Value) } : Obj)) (u := .tup []) fr
    have y := z _ _ (v :: (zs ++ [V.ref s.heap.objs.size])) (u :: (ws ++ [Value.ref s.heap.objs.size])) (env0_laid e0 new) lai rfl (fun e s' z => (show False from z).elim)
      (.cons ru (rz.append (.cons rfl .nil))) (by simp [hl]) ⟨_, fr, rfl, rfl⟩
    have ez : (p0 :: (ks ++ [pv])).zip (u :: (ws ++ [Value.ref s.heap.objs.size])) = (p0, u) :: (ks.zip ws ++ [(pv, Value.ref s.heap.objs.size)]) := by
      rw [List.zip_cons_cons, List.zip_append (hl.symm.trans rz.length)]
      rfl
    rw [ez] at y
    exact y
  · subst e1 e2
    exact hbody A outer s2 _ _ Q E0 hr' (h.2 p hp)
end UL
set_option Elab.async false
set_option linter.all false
set_option maxRecDepth 100000
set_option maxHeartbeats 4000000
namespace UL
open PySem PySem.Spec PyProof.Rows L2
open PySem.W (Looks Frag findIn clsIn InstAt)
/-! ### own operators beside a built-in type, own orders -/
/-- the class at C beside the built-in type T -/
structure OwnT (K : Frag) (C : Addr) (T nm : String) : Prop where
  sf : PySem.W.selfFirst K C = true
  r : ∃ rc, findIn K (.ref C) (dunderR nm) = some rc ∧ (rc = none ∨ ∃ g : Addr, rc = some (.ref g))
  t1 : ∃ fo, findIn K (.type T) (PySem.dunder nm) = some fo
  t2 : ∃ ro, findIn K (.type T) (dunderR nm) = some ro
  su : PySem.W.subIn K (.type T) (.ref C) = some false
theorem dr_add : dunderR "add" = ("__radd__" : Str) := by decide +kernel
theorem du_mul : PySem.dunder "mul" = ("__mul__" : Str) := by decide +kernel
section
variable {X : Cx} {CX : CXT} {C g : Addr} {n : Nat} {sp : Sp} {E : XK} {T : String}
/-- x op y by the def at g, x an instance, y of the built-in type T -/
def rOpT (C : Addr) (T : String) (sp : Sp) (E : XK) : R2 := fun x y H Q => ∃ (a dx : Addr) (fs : List (Str × V)), x = .ref a ∧ H a = some (.ins C dx fs) ∧ (∀ u, RelV y u → typeOf u = pure (.type T)) ∧ sp [x, y] H Q E
theorem op_ownT {op : Operator} (o : OwnT X.K C T op.info.2) (hs : findIn X.K (.ref C) (PySem.dunder op.info.2) = some (some (.ref g))) (hf : PySem.W.isFn X.K (.ref g) = true) (F : FnR X.prog X.w X.K X.mg X.base CX n g sp) (hr : Room n X.A) (hx : Passes CX X E) :
    OpR X (binaryOp op) (rOpT C T sp E) := by
  intro pins s σ H x y v u Q I rx ry h
  obtain ⟨a, dx, fs, rfl, ha, ty, q⟩ := h
  cases (show v = Value.ref a from rx)
  obtain ⟨mA, O, _⟩ := ins_get I.hok ha
  obtain ⟨od, J, _⟩ := O.look
  obtain ⟨m, hF⟩ := I.fr
  obtain ⟨rc, r1, r2⟩ := o.r
  obtain ⟨fo, t1⟩ := o.t1
  obtain ⟨ro, t2⟩ := o.t2
  refine PySem.W.ksp_binT hF I.ok.mod.kin J (ty u ry) o.sf hs hf r1 r2 t1 t2 o.su ?_
  refine wpAny_mono (wpAny_call (run_fnR (us := [.ref a, u]) (vs := [.ref a, y]) F hr hx I (.cons rfl (.cons ry .nil)) q)) (fun r s' z => ?_) fun _ _ e => e
  obtain ⟨z', H', I', rz, qz⟩ := z
  exact SlX.cmpback rz ⟨z', H', I', rz, qz⟩
/-- x + y by the reflected def at g, y an instance, x of the built-in type T, which doesn't add by number -/
def rOpTR (C : Addr) (T : String) (sp : Sp) (E : XK) : R2 := fun x y H Q => ∃ (a dx : Addr) (fs : List (Str × V)), y = .ref a ∧ H a = some (.ins C dx fs) ∧ (∀ u, RelV x u → typeOf u = pure (.type T)) ∧ sp [y, x] H Q E
theorem op_raddT {fa : Addr} {fo ro : Option Value} (sf : PySem.W.selfFirst X.K C = true) (ha' : findIn X.K (.ref C) "__add__" = some (some (.ref fa))) (t1 : findIn X.K (.type T) (PySem.dunder "add") = some fo) (t2 : findIn X.K (.type T) (dunderR "add") = some ro)
    (t3 : ((fo.isSome && !isSeqSlot fo) || (ro.isSome && !isSeqSlot ro)) = false) (hs : findIn X.K (.ref C) "__radd__" = some (some (.ref g))) (hf : PySem.W.isFn X.K (.ref g) = true) (F : FnR X.prog X.w X.K X.mg X.base CX n g sp) (hr : Room n X.A) (hx : Passes CX X E) :
    OpR X (binaryOp .Add) (rOpTR C T sp E) := by
  intro pins s σ H y x u v Q I ry rx h
  obtain ⟨a, dx, fs, rfl, ha, ty, q⟩ := h
  cases (show v = Value.ref a from rx)
  obtain ⟨mA, O, _⟩ := ins_get I.hok ha
  obtain ⟨od, J, _⟩ := O.look
  have KX := I.kIn
  obtain ⟨cd, rest, hcd, hm⟩ := PySem.W.ksp_first sf
  have fl := PySem.W.ksp_fillsT (M := model X.prog X.w) (nm := "add") KX t1 t2
  rw [t3] at fl
  have fr := PySem.W.fills_K (M := model X.prog X.w) (nm := "add") KX hcd hm (by rw [du_add]; exact ha')
  have one : wpAny (model X.prog X.w) X.A (tryMethod (.ref a) (dunderR "add") u) (fun r s' => ∃ z, r = some z ∧ EP X pins σ Q z s') X.xe s := by
    rw [dr_add]
    refine PySem.W.ksp_try KX J hs hf (wpAny_mono (wpAny_call (run_fnR (us := [.ref a, u]) (vs := [.ref a, y]) F hr hx I (.cons rfl (.cons ry .nil)) q)) (fun r s' z => ?_) fun _ _ e => e)
    obtain ⟨z', H', I', rz, qz⟩ := z
    exact SlX.cmpback rz ⟨z', H', I', rz, qz⟩
  have ne : (Value.type T == Value.ref C) = false := Bool.eq_false_iff.mpr fun q => by cases beq_iff_eq.mp q
  have lt : Looks (model X.prog X.w) s.heap (typeOf u) (.type T) := Looks.of_pure (ty u ry)
  unfold binaryOp
  refine wpAny_holding (wpAny_bind ?_)
  show wpAny _ _ (binaryOp1 "add" u (.ref a)) _ _ _
  unfold binaryOp1
  refine wpAny_bind (lt.here (wpAny_bind (J.type.here (wpAny_bind (fl.here ?_)))))
  simp only [ne, Bool.false_eq_true, if_false, Bool.false_and]
  refine wpAny_bind (fr.here ?_)
  refine wpAny_bind (wpAny_pure ?_)
  simp only [Bool.false_eq_true, if_false, Bool.not_false, Bool.and_true, if_true]
  refine wpAny_bind (wpAny_mono one (fun r s' ⟨z, e, qz⟩ => ?_) fun _ _ e => e)
  subst e
  dsimp only
  refine wpAny_bind (wpAny_rule ?_)
  exact wpAny_pure (wpAny_pure qz)
/-- x < y and the like by the def at g -/
def rCmpI (K : Frag) (C : Addr) (sp : Sp) (E : XK) : R2 := rEqI K C sp E
theorem op_cmpI {op : CmpOp} (hop : ∀ u v : Value, compareOp op u v = richCompare op u v) (hs : findIn X.K (.ref C) (cmpInfo op).2.1 = some (some (.ref g))) (hf : PySem.W.isFn X.K (.ref g) = true) (F : FnR X.prog X.w X.K X.mg X.base CX n g sp) (hr : Room n X.A) (hx : Passes CX X E) :
    OpR X (compareOp op) (rEqI X.K C sp E) := by
  intro pins s σ H x y v u Q I rx ry h
  obtain ⟨a, dx, fs, t, rfl, ha, ty, hn, q⟩ := h
  cases (show v = Value.ref a from rx)
  obtain ⟨mA, O, _⟩ := ins_get I.hok ha
  obtain ⟨od, J, _⟩ := O.look
  obtain ⟨m, hF⟩ := I.fr
  obtain ⟨Pk, Z, pk, _⟩ := kit_of I ry ty
  rw [hop]
  refine PySem.W.cmp_K (op := op) hr.units0 hF I.ok.mod.kin J (Z.ty _ _ I.kIn pk) hn hs hf ?_
  refine wpAny_mono (wpAny_call (run_fnR (us := [.ref a, u]) (vs := [.ref a, y]) F hr hx I (.cons rfl (.cons ry .nil)) q)) (fun r s' z => ?_) fun _ _ e => e
  obtain ⟨z', H', I', rz, qz⟩ := z
  exact SlX.cmpback rz ⟨z', H', I', rz, qz⟩
end
section
variable {X : Cx} {C : Addr} {k j : Nat} {sp : Sp} {T : String}
theorem op_ltS (c : CalS X.prog X.w X.K X.mg X.base k C "__lt__" sp) (hr : Room j X.A) (hk : k ≤ j) : OpR X (compareOp .Lt) (rEqI X.K C sp E0) := by
  obtain ⟨f, F, h1, h2⟩ := c
  exact op_cmpI (fun _ _ => rfl) h1 h2 F (hr.mono hk) pass0
theorem op_leS (c : CalS X.prog X.w X.K X.mg X.base k C "__le__" sp) (hr : Room j X.A) (hk : k ≤ j) : OpR X (compareOp .LtE) (rEqI X.K C sp E0) := by
  obtain ⟨f, F, h1, h2⟩ := c
  exact op_cmpI (fun _ _ => rfl) h1 h2 F (hr.mono hk) pass0
theorem op_gtS (c : CalS X.prog X.w X.K X.mg X.base k C "__gt__" sp) (hr : Room j X.A) (hk : k ≤ j) : OpR X (compareOp .Gt) (rEqI X.K C sp E0) := by
  obtain ⟨f, F, h1, h2⟩ := c
  exact op_cmpI (fun _ _ => rfl) h1 h2 F (hr.mono hk) pass0
theorem op_geS (c : CalS X.prog X.w X.K X.mg X.base k C "__ge__" sp) (hr : Room j X.A) (hk : k ≤ j) : OpR X (compareOp .GtE) (rEqI X.K C sp E0) := by
  obtain ⟨f, F, h1, h2⟩ := c
  exact op_cmpI (fun _ _ => rfl) h1 h2 F (hr.mono hk) pass0
theorem op_addST (c : CalS X.prog X.w X.K X.mg X.base k C "__add__" sp) (o : OwnT X.K C T "add") (hr : Room j X.A) (hk : k ≤ j) : OpR X (binaryOp .Add) (rOpT C T sp E0) := by
  obtain ⟨f, F, h1, h2⟩ := c
  exact op_ownT (op := .Add) o (by show findIn X.K (.ref C) (PySem.dunder "add") = _; rw [du_add]; exact h1) h2 F (hr.mono hk) pass0
theorem op_mulST (c : CalS X.prog X.w X.K X.mg X.base k C "__mul__" sp) (o : OwnT X.K C T "mul") (hr : Room j X.A) (hk : k ≤ j) : OpR X (binaryOp .Mult) (rOpT C T sp E0) := by
  obtain ⟨f, F, h1, h2⟩ := c
  exact op_ownT (op := .Mult) o (by show findIn X.K (.ref C) (PySem.dunder "mul") = _; rw [du_mul]; exact h1) h2 F (hr.mono hk) pass0
/-- what is asked where the instance stands on the right of + -/
structure RadT (K : Frag) (C : Addr) (T : String) : Prop where
  sf : PySem.W.selfFirst K C = true
  ad : ∃ fa : Addr, findIn K (.ref C) "__add__" = some (some (.ref fa))
  t : ∃ fo ro, findIn K (.type T) (PySem.dunder "add") = some fo ∧ findIn K (.type T) (dunderR "add") = some ro ∧ ((fo.isSome && !isSeqSlot fo) || (ro.isSome && !isSeqSlot ro)) = false
theorem op_raddS (c : CalS X.prog X.w X.K X.mg X.base k C "__radd__" sp) (o : RadT X.K C T) (hr : Room j X.A) (hk : k ≤ j) : OpR X (binaryOp .Add) (rOpTR C T sp E0) := by
  obtain ⟨f, F, h1, h2⟩ := c
  obtain ⟨fa, ha⟩ := o.ad
  obtain ⟨fo, ro, t1, t2, t3⟩ := o.t
  exact op_raddT o.sf ha t1 t2 t3 h1 h2 F (hr.mono hk) pass0
theorem ty_str {x : Str} : ∀ u, RelV (.str x) u → typeOf u = pure (.type "str") := fun u ⟨t, e⟩ => by subst e; rfl
end
end UL
set_option Elab.async false
set_option linter.all false
set_option maxRecDepth 100000
set_option maxHeartbeats 4000000
namespace GQ
open PySem PySem.SeqAt
open AutoSeq1 (wpAny_loadPart')
open MeetsSeq MeetsSeq2 MeetsSeq3 SeqRoads2
open Ob (RcOp lexAt lexAt_zero lexAt_succ)
/-! ### the four orders of lists: the first place that differs decides -/
/-- two lists lie there -/
def TwoL (s : Shared) (l b : Addr) (xs ys : Array Value) (n m : Nat) (d1 d2 : Option Addr) (sl sm : Array (Option Value)) : Prop :=
  s.heap.get? l = some { cls := .type "list", dict := d1, data := .seq xs n, slots := sl } ∧ s.heap.get? b = some { cls := .type "list", dict := d2, data := .seq ys m, slots := sm }
theorem lt_from (l b : Addr) (xs ys : Array Value) (n m : Nat) (d1 d2 : Option Addr) (sl sm : Array (Option Value)) (e r : Nat → Bool) (k : Nat) : ∀ i : Nat, min xs.size ys.size - i = k →
    Meets (Builtin.«list.__eq__.loop» ⟨[.ref l, .ref b, rawInt i, rawInt 0], []⟩) (fun A R s => TwoL s l b xs ys n m d1 d2 sl sm ∧
      (∀ j (h1 : j < xs.size) (h2 : j < ys.size), EqAt A.in1 s xs[j] ys[j] (e j)) ∧ (∀ j (h1 : j < xs.size) (h2 : j < ys.size), e j = false → RcOp .Lt A.in1 s xs[j] ys[j] (r j)) ∧
      R (.ok (.ret (.bool (lexAt e r (decide (xs.size < ys.size)) i k)))) s) := by
  induction k with
  | zero =>
    intro i hk prog w A R s ⟨⟨hl, hb⟩, he, hr, hR⟩
    obtain ⟨hp, g, d, tk, os⟩ := s
    rw [lexAt_zero] at hR
    wp_walk using wpAny_loadPart' hl, wpAny_loadPart' hb
    by_cases c : xs.size ≤ i
    · rw [show xs[((i : Nat) : Int).toNat]? = none by simp; omega]
      wp_walk using wpAny_loadPart' hl, wpAny_loadPart' hb
      exact hR
    · rw [show xs[((i : Nat) : Int).toNat]? = some (xs[i]'(by omega)) by simp, show ys[((i : Nat) : Int).toNat]? = none by simp; omega]
      wp_walk using wpAny_loadPart' hl, wpAny_loadPart' hb
      exact hR
  | succ k ih =>
    intro i hk prog w A R s ⟨⟨hl, hb⟩, he, hr, hR⟩
    obtain ⟨hp, g, d, tk, os⟩ := s
    have p1 : i < xs.size := by omega
    have p2 : i < ys.size := by omega
    have q1 : xs[((i : Nat) : Int).toNat]? = some xs[i] := by simp [p1]
    have q2 : ys[((i : Nat) : Int).toNat]? = some ys[i] := by simp [p2]
    rw [lexAt_succ] at hR
    wp_walk using wpAny_loadPart' hl, wpAny_loadPart' hb
    rw [q1, q2]
    refine wpAny_bind (he i p1 p2 prog w _ _ ?_)
    cases c : e i with
    | true =>
      rw [if_pos c] at hR
      wp_walk
      rw [show ((i : Int) + 1) = ((i + 1 : Nat) : Int) by push_cast; rfl]
      refine ⟨plainId_quiet plain_eq_loop _, codeAny_builtin entry_eq_loop ?_⟩
      rw [Around.under_plainId plain_eq_loop _]
      exact ih (i + 1) (by omega) prog w A R _ ⟨⟨hl, hb⟩, he, hr, hR⟩
    | false =>
      rw [if_neg (by rw [c]; exact Bool.false_ne_true)] at hR
      wp_walk using wpAny_loadPart' hl, wpAny_loadPart' hb
      rw [q1, q2]
      repeat (first | refine hr i p1 p2 c prog w _ _ ?_ | wp_step)
      wp_walk
      exact hR
theorem lists_lt {A : Around} {s : Shared} {l b : Addr} {xs ys : Array Value} {e r : Nat → Bool} (hl : s.heap.IsList l xs) (hb : s.heap.IsList b ys) (hu : A.units < cLine) (he : ∀ j (h1 : j < xs.size) (h2 : j < ys.size), EqAt A.in1 s xs[j] ys[j] (e j))
    (hr : ∀ j (h1 : j < xs.size) (h2 : j < ys.size), e j = false → RcOp .Lt A.in1 s xs[j] ys[j] (r j)) : RcOp .Lt A s (.ref l) (.ref b) (lexAt e r (decide (xs.size < ys.size)) 0 (min xs.size ys.size)) := fun prog w E Q hq => by
  obtain ⟨⟨c1, d1, w1, sl⟩, ho, z1, n, v1⟩ := id hl
  obtain ⟨⟨c2, d2, w2, sm⟩, hp, z2, m, v2⟩ := id hb
  simp only at z1 v1 z2 v2
  subst z1 v1 z2 v2
  have go : Meets (Builtin.«list.__lt__» ⟨[.ref l, .ref b], []⟩) (fun A R s => TwoL s l b xs ys n m d1 d2 sl sm ∧
      (∀ j (h1 : j < xs.size) (h2 : j < ys.size), EqAt A.in1 s xs[j] ys[j] (e j)) ∧ (∀ j (h1 : j < xs.size) (h2 : j < ys.size), e j = false → RcOp .Lt A.in1 s xs[j] ys[j] (r j)) ∧
      R (.ok (.ret (.bool (lexAt e r (decide (xs.size < ys.size)) 0 (min xs.size ys.size))))) s) := by
    intro prog w A R s ⟨⟨hl, hb⟩, he, hr, hR⟩
    obtain ⟨hp, g, d, tk, os⟩ := s
    have f3 := AutoSeq1.sub_list_list
    wp_walk using wpAny_loadPart' hl, wpAny_loadPart' hb
    refine ⟨plainId_quiet plain_eq_loop _, codeAny_builtin entry_eq_loop ?_⟩
    rw [Around.under_plainId plain_eq_loop _]
    exact lt_from l b xs ys n m d1 d2 sl sm e r _ 0 (by simp) prog w A R _ ⟨⟨hl, hb⟩, he, hr, hR⟩
  exact richCompare_meets_room (op := .Lt) ⟨_, ho, rfl⟩ ⟨_, hp, rfl⟩ F.slot_list_lt F.entry_list_lt (F.args_list_lt_2 _ _) go ⟨⟨ho, hp⟩, he, hr, (fun x => nomatch x), hq⟩ hu
theorem le_from (l b : Addr) (xs ys : Array Value) (n m : Nat) (d1 d2 : Option Addr) (sl sm : Array (Option Value)) (e r : Nat → Bool) (k : Nat) : ∀ i : Nat, min xs.size ys.size - i = k →
    Meets (Builtin.«list.__eq__.loop» ⟨[.ref l, .ref b, rawInt i, rawInt 1], []⟩) (fun A R s => TwoL s l b xs ys n m d1 d2 sl sm ∧
      (∀ j (h1 : j < xs.size) (h2 : j < ys.size), EqAt A.in1 s xs[j] ys[j] (e j)) ∧ (∀ j (h1 : j < xs.size) (h2 : j < ys.size), e j = false → RcOp .LtE A.in1 s xs[j] ys[j] (r j)) ∧
      R (.ok (.ret (.bool (lexAt e r (decide (xs.size ≤ ys.size)) i k)))) s) := by
  induction k with
  | zero =>
    intro i hk prog w A R s ⟨⟨hl, hb⟩, he, hr, hR⟩
    obtain ⟨hp, g, d, tk, os⟩ := s
    rw [lexAt_zero] at hR
    wp_walk using wpAny_loadPart' hl, wpAny_loadPart' hb
    by_cases c : xs.size ≤ i
    · rw [show xs[((i : Nat) : Int).toNat]? = none by simp; omega]
      wp_walk using wpAny_loadPart' hl, wpAny_loadPart' hb
      exact hR
    · rw [show xs[((i : Nat) : Int).toNat]? = some (xs[i]'(by omega)) by simp, show ys[((i : Nat) : Int).toNat]? = none by simp; omega]
      wp_walk using wpAny_loadPart' hl, wpAny_loadPart' hb
      exact hR
  | succ k ih =>
    intro i hk prog w A R s ⟨⟨hl, hb⟩, he, hr, hR⟩
    obtain ⟨hp, g, d, tk, os⟩ := s
    have p1 : i < xs.size := by omega
    have p2 : i < ys.size := by omega
    have q1 : xs[((i : Nat) : Int).toNat]? = some xs[i] := by simp [p1]
    have q2 : ys[((i : Nat) : Int).toNat]? = some ys[i] := by simp [p2]
    rw [lexAt_succ] at hR
    wp_walk using wpAny_loadPart' hl, wpAny_loadPart' hb
    rw [q1, q2]
    refine wpAny_bind (he i p1 p2 prog w _ _ ?_)
    cases c : e i with
    | true =>
      rw [if_pos c] at hR
      wp_walk
      rw [show ((i : Int) + 1) = ((i + 1 : Nat) : Int) by push_cast; rfl]
      refine ⟨plainId_quiet plain_eq_loop _, codeAny_builtin entry_eq_loop ?_⟩
      rw [Around.under_plainId plain_eq_loop _]
      exact ih (i + 1) (by omega) prog w A R _ ⟨⟨hl, hb⟩, he, hr, hR⟩
    | false =>
      rw [if_neg (by rw [c]; exact Bool.false_ne_true)] at hR
      wp_walk using wpAny_loadPart' hl, wpAny_loadPart' hb
      rw [q1, q2]
      repeat (first | refine hr i p1 p2 c prog w _ _ ?_ | wp_step)
      wp_walk
      exact hR
theorem lists_le {A : Around} {s : Shared} {l b : Addr} {xs ys : Array Value} {e r : Nat → Bool} (hl : s.heap.IsList l xs) (hb : s.heap.IsList b ys) (hu : A.units < cLine) (he : ∀ j (h1 : j < xs.size) (h2 : j < ys.size), EqAt A.in1 s xs[j] ys[j] (e j))
    (hr : ∀ j (h1 : j < xs.size) (h2 : j < ys.size), e j = false → RcOp .LtE A.in1 s xs[j] ys[j] (r j)) : RcOp .LtE A s (.ref l) (.ref b) (lexAt e r (decide (xs.size ≤ ys.size)) 0 (min xs.size ys.size)) := fun prog w E Q hq => by
  obtain ⟨⟨c1, d1, w1, sl⟩, ho, z1, n, v1⟩ := id hl
  obtain ⟨⟨c2, d2, w2, sm⟩, hp, z2, m, v2⟩ := id hb
  simp only at z1 v1 z2 v2
  subst z1 v1 z2 v2
  have go : Meets (Builtin.«list.__le__» ⟨[.ref l, .ref b], []⟩) (fun A R s => TwoL s l b xs ys n m d1 d2 sl sm ∧
      (∀ j (h1 : j < xs.size) (h2 : j < ys.size), EqAt A.in1 s xs[j] ys[j] (e j)) ∧ (∀ j (h1 : j < xs.size) (h2 : j < ys.size), e j = false → RcOp .LtE A.in1 s xs[j] ys[j] (r j)) ∧
      R (.ok (.ret (.bool (lexAt e r (decide (xs.size ≤ ys.size)) 0 (min xs.size ys.size))))) s) := by
    intro prog w A R s ⟨⟨hl, hb⟩, he, hr, hR⟩
    obtain ⟨hp, g, d, tk, os⟩ := s
    have f3 := AutoSeq1.sub_list_list
    wp_walk using wpAny_loadPart' hl, wpAny_loadPart' hb
    refine ⟨plainId_quiet plain_eq_loop _, codeAny_builtin entry_eq_loop ?_⟩
    rw [Around.under_plainId plain_eq_loop _]
    exact le_from l b xs ys n m d1 d2 sl sm e r _ 0 (by simp) prog w A R _ ⟨⟨hl, hb⟩, he, hr, hR⟩
  exact richCompare_meets_room (op := .LtE) ⟨_, ho, rfl⟩ ⟨_, hp, rfl⟩ F.slot_list_le F.entry_list_le (F.args_list_le_2 _ _) go ⟨⟨ho, hp⟩, he, hr, (fun x => nomatch x), hq⟩ hu
theorem gt_from (l b : Addr) (xs ys : Array Value) (n m : Nat) (d1 d2 : Option Addr) (sl sm : Array (Option Value)) (e r : Nat → Bool) (k : Nat) : ∀ i : Nat, min xs.size ys.size - i = k →
    Meets (Builtin.«list.__eq__.loop» ⟨[.ref l, .ref b, rawInt i, rawInt 4], []⟩) (fun A R s => TwoL s l b xs ys n m d1 d2 sl sm ∧
      (∀ j (h1 : j < xs.size) (h2 : j < ys.size), EqAt A.in1 s xs[j] ys[j] (e j)) ∧ (∀ j (h1 : j < xs.size) (h2 : j < ys.size), e j = false → RcOp .Gt A.in1 s xs[j] ys[j] (r j)) ∧
      R (.ok (.ret (.bool (lexAt e r (decide (ys.size < xs.size)) i k)))) s) := by
  induction k with
  | zero =>
    intro i hk prog w A R s ⟨⟨hl, hb⟩, he, hr, hR⟩
    obtain ⟨hp, g, d, tk, os⟩ := s
    rw [lexAt_zero] at hR
    wp_walk using wpAny_loadPart' hl, wpAny_loadPart' hb
    by_cases c : xs.size ≤ i
    · rw [show xs[((i : Nat) : Int).toNat]? = none by simp; omega]
      wp_walk using wpAny_loadPart' hl, wpAny_loadPart' hb
      exact hR
    · rw [show xs[((i : Nat) : Int).toNat]? = some (xs[i]'(by omega)) by simp, show ys[((i : Nat) : Int).toNat]? = none by simp; omega]
      wp_walk using wpAny_loadPart' hl, wpAny_loadPart' hb
      exact hR
  | succ k ih =>
    intro i hk prog w A R s ⟨⟨hl, hb⟩, he, hr, hR⟩
    obtain ⟨hp, g, d, tk, os⟩ := s
    have p1 : i < xs.size := by omega
    have p2 : i < ys.size := by omega
    have q1 : xs[((i : Nat) : Int).toNat]? = some xs[i] := by simp [p1]
    have q2 : ys[((i : Nat) : Int).toNat]? = some ys[i] := by simp [p2]
    rw [lexAt_succ] at hR
    wp_walk using wpAny_loadPart' hl, wpAny_loadPart' hb
    rw [q1, q2]
    refine wpAny_bind (he i p1 p2 prog w _ _ ?_)
    cases c : e i with
    | true =>
      rw [if_pos c] at hR
      wp_walk
      rw [show ((i : Int) + 1) = ((i + 1 : Nat) : Int) by push_cast; rfl]
      refine ⟨plainId_quiet plain_eq_loop _, codeAny_builtin entry_eq_loop ?_⟩
      rw [Around.under_plainId plain_eq_loop _]
      exact ih (i + 1) (by omega) prog w A R _ ⟨⟨hl, hb⟩, he, hr, hR⟩
    | false =>
      rw [if_neg (by rw [c]; exact Bool.false_ne_true)] at hR
      wp_walk using wpAny_loadPart' hl, wpAny_loadPart' hb
      rw [q1, q2]
      repeat (first | refine hr i p1 p2 c prog w _ _ ?_ | wp_step)
      wp_walk
      exact hR
theorem lists_gt {A : Around} {s : Shared} {l b : Addr} {xs ys : Array Value} {e r : Nat → Bool} (hl : s.heap.IsList l xs) (hb : s.heap.IsList b ys) (hu : A.units < cLine) (he : ∀ j (h1 : j < xs.size) (h2 : j < ys.size), EqAt A.in1 s xs[j] ys[j] (e j))
    (hr : ∀ j (h1 : j < xs.size) (h2 : j < ys.size), e j = false → RcOp .Gt A.in1 s xs[j] ys[j] (r j)) : RcOp .Gt A s (.ref l) (.ref b) (lexAt e r (decide (ys.size < xs.size)) 0 (min xs.size ys.size)) := fun prog w E Q hq => by
  obtain ⟨⟨c1, d1, w1, sl⟩, ho, z1, n, v1⟩ := id hl
  obtain ⟨⟨c2, d2, w2, sm⟩, hp, z2, m, v2⟩ := id hb
  simp only at z1 v1 z2 v2
  subst z1 v1 z2 v2
  have go : Meets (Builtin.«list.__gt__» ⟨[.ref l, .ref b], []⟩) (fun A R s => TwoL s l b xs ys n m d1 d2 sl sm ∧
      (∀ j (h1 : j < xs.size) (h2 : j < ys.size), EqAt A.in1 s xs[j] ys[j] (e j)) ∧ (∀ j (h1 : j < xs.size) (h2 : j < ys.size), e j = false → RcOp .Gt A.in1 s xs[j] ys[j] (r j)) ∧
      R (.ok (.ret (.bool (lexAt e r (decide (ys.size < xs.size)) 0 (min xs.size ys.size))))) s) := by
    intro prog w A R s ⟨⟨hl, hb⟩, he, hr, hR⟩
    obtain ⟨hp, g, d, tk, os⟩ := s
    have f3 := AutoSeq1.sub_list_list
    wp_walk using wpAny_loadPart' hl, wpAny_loadPart' hb
    refine ⟨plainId_quiet plain_eq_loop _, codeAny_builtin entry_eq_loop ?_⟩
    rw [Around.under_plainId plain_eq_loop _]
    exact gt_from l b xs ys n m d1 d2 sl sm e r _ 0 (by simp) prog w A R _ ⟨⟨hl, hb⟩, he, hr, hR⟩
  exact richCompare_meets_room (op := .Gt) ⟨_, ho, rfl⟩ ⟨_, hp, rfl⟩ F.slot_list_gt F.entry_list_gt (F.args_list_gt_2 _ _) go ⟨⟨ho, hp⟩, he, hr, (fun x => nomatch x), hq⟩ hu
theorem ge_from (l b : Addr) (xs ys : Array Value) (n m : Nat) (d1 d2 : Option Addr) (sl sm : Array (Option Value)) (e r : Nat → Bool) (k : Nat) : ∀ i : Nat, min xs.size ys.size - i = k →
    Meets (Builtin.«list.__eq__.loop» ⟨[.ref l, .ref b, rawInt i, rawInt 5], []⟩) (fun A R s => TwoL s l b xs ys n m d1 d2 sl sm ∧
      (∀ j (h1 : j < xs.size) (h2 : j < ys.size), EqAt A.in1 s xs[j] ys[j] (e j)) ∧ (∀ j (h1 : j < xs.size) (h2 : j < ys.size), e j = false → RcOp .GtE A.in1 s xs[j] ys[j] (r j)) ∧
      R (.ok (.ret (.bool (lexAt e r (decide (ys.size ≤ xs.size)) i k)))) s) := by
  induction k with
  | zero =>
    intro i hk prog w A R s ⟨⟨hl, hb⟩, he, hr, hR⟩
    obtain ⟨hp, g, d, tk, os⟩ := s
    rw [lexAt_zero] at hR
    wp_walk using wpAny_loadPart' hl, wpAny_loadPart' hb
    by_cases c : xs.size ≤ i
    · rw [show xs[((i : Nat) : Int).toNat]? = none by simp; omega]
      wp_walk using wpAny_loadPart' hl, wpAny_loadPart' hb
      exact hR
    · rw [show xs[((i : Nat) : Int).toNat]? = some (xs[i]'(by omega)) by simp, show ys[((i : Nat) : Int).toNat]? = none by simp; omega]
      wp_walk using wpAny_loadPart' hl, wpAny_loadPart' hb
      exact hR
  | succ k ih =>
    intro i hk prog w A R s ⟨⟨hl, hb⟩, he, hr, hR⟩
    obtain ⟨hp, g, d, tk, os⟩ := s
    have p1 : i < xs.size := by omega
    have p2 : i < ys.size := by omega
    have q1 : xs[((i : Nat) : Int).toNat]? = some xs[i] := by simp [p1]
    have q2 : ys[((i : Nat) : Int).toNat]? = some ys[i] := by simp [p2]
    rw [lexAt_succ] at hR
    wp_walk using wpAny_loadPart' hl, wpAny_loadPart' hb
    rw [q1, q2]
    refine wpAny_bind (he i p1 p2 prog w _ _ ?_)
    cases c : e i with
    | true =>
      rw [if_pos c] at hR
      wp_walk
      rw [show ((i : Int) + 1) = ((i + 1 : Nat) : Int) by push_cast; rfl]
      refine ⟨plainId_quiet plain_eq_loop _, codeAny_builtin entry_eq_loop ?_⟩
      rw [Around.under_plainId plain_eq_loop _]
      exact ih (i + 1) (by omega) prog w A R _ ⟨⟨hl, hb⟩, he, hr, hR⟩
    | false =>
      rw [if_neg (by rw [c]; exact Bool.false_ne_true)] at hR
      wp_walk using wpAny_loadPart' hl, wpAny_loadPart' hb
      rw [q1, q2]
      repeat (first | refine hr i p1 p2 c prog w _ _ ?_ | wp_step)
      wp_walk
      exact hR
theorem lists_ge {A : Around} {s : Shared} {l b : Addr} {xs ys : Array Value} {e r : Nat → Bool} (hl : s.heap.IsList l xs) (hb : s.heap.IsList b ys) (hu : A.units < cLine) (he : ∀ j (h1 : j < xs.size) (h2 : j < ys.size), EqAt A.in1 s xs[j] ys[j] (e j))
    (hr : ∀ j (h1 : j < xs.size) (h2 : j < ys.size), e j = false → RcOp .GtE A.in1 s xs[j] ys[j] (r j)) : RcOp .GtE A s (.ref l) (.ref b) (lexAt e r (decide (ys.size ≤ xs.size)) 0 (min xs.size ys.size)) := fun prog w E Q hq => by
  obtain ⟨⟨c1, d1, w1, sl⟩, ho, z1, n, v1⟩ := id hl
  obtain ⟨⟨c2, d2, w2, sm⟩, hp, z2, m, v2⟩ := id hb
  simp only at z1 v1 z2 v2
  subst z1 v1 z2 v2
  have go : Meets (Builtin.«list.__ge__» ⟨[.ref l, .ref b], []⟩) (fun A R s => TwoL s l b xs ys n m d1 d2 sl sm ∧
      (∀ j (h1 : j < xs.size) (h2 : j < ys.size), EqAt A.in1 s xs[j] ys[j] (e j)) ∧ (∀ j (h1 : j < xs.size) (h2 : j < ys.size), e j = false → RcOp .GtE A.in1 s xs[j] ys[j] (r j)) ∧
      R (.ok (.ret (.bool (lexAt e r (decide (ys.size ≤ xs.size)) 0 (min xs.size ys.size))))) s) := by
    intro prog w A R s ⟨⟨hl, hb⟩, he, hr, hR⟩
    obtain ⟨hp, g, d, tk, os⟩ := s
    have f3 := AutoSeq1.sub_list_list
    wp_walk using wpAny_loadPart' hl, wpAny_loadPart' hb
    refine ⟨plainId_quiet plain_eq_loop _, codeAny_builtin entry_eq_loop ?_⟩
    rw [Around.under_plainId plain_eq_loop _]
    exact ge_from l b xs ys n m d1 d2 sl sm e r _ 0 (by simp) prog w A R _ ⟨⟨hl, hb⟩, he, hr, hR⟩
  exact richCompare_meets_room (op := .GtE) ⟨_, ho, rfl⟩ ⟨_, hp, rfl⟩ F.slot_list_ge F.entry_list_ge (F.args_list_ge_2 _ _) go ⟨⟨ho, hp⟩, he, hr, (fun x => nomatch x), hq⟩ hu
end GQ
set_option Elab.async false
set_option linter.all false
set_option maxRecDepth 100000
set_option maxHeartbeats 4000000
namespace UL
open PySem PySem.Spec PyProof.Rows L2 PySem.SeqAt
open Ob (RcOp lexAt lexAt_zero lexAt_succ)
/-! ### the orders of nested lists and tuples of whole numbers -/
def opI : CmpOp → Int → Int → Bool
  | .Lt, a, b => decide (a < b)
  | .LtE, a, b => decide (a ≤ b)
  | .Gt, a, b => decide (b < a)
  | .GtE, a, b => decide (b ≤ a)
  | _, _, _ => false
def opN : CmpOp → Nat → Nat → Bool
  | .Lt, a, b => decide (a < b)
  | .LtE, a, b => decide (a ≤ b)
  | .Gt, a, b => decide (b < a)
  | .GtE, a, b => decide (b ≤ a)
  | _, _, _ => false
mutual
def ordV (o : CmpOp) : PyData → PyData → Bool
  | .int a, .int b => opI o a b
  | .list xs, .list ys => ordL o (opN o xs.length ys.length) xs ys
  | .tuple xs, .tuple ys => ordL o (opN o xs.length ys.length) xs ys
  | _, _ => false
def ordL (o : CmpOp) (z : Bool) : List PyData → List PyData → Bool
  | x :: xs, y :: ys => if PyData.eqv x y = true then ordL o z xs ys else ordV o x y
  | [], _ => z
  | _ :: _, [] => z
end
mutual
/-- they can be ordered: whole numbers where they first differ -/
def ordOk : PyData → PyData → Bool
  | .int _, .int _ => true
  | .list xs, .list ys => ordOkL xs ys
  | .tuple xs, .tuple ys => ordOkL xs ys
  | _, _ => false
def ordOkL : List PyData → List PyData → Bool
  | x :: xs, y :: ys => (PyData.eqv x y || ordOk x y) && ordOkL xs ys
  | [], _ => true
  | _ :: _, [] => true
end
inductive IsOrd : CmpOp → Prop
  | lt : IsOrd .Lt
  | le : IsOrd .LtE
  | gt : IsOrd .Gt
  | ge : IsOrd .GtE
theorem rc_int {o : CmpOp} (ho : IsOrd o) {A : Around} {s : Shared} (a b : Int) (t u : Tok) : RcOp o A s (.int a t) (.int b u) (opI o a b) := by
  cases ho
  · exact RcOp.lt_int a b t u
  · exact RcOp.le_int a b t u
  · exact RcOp.gt_int a b t u
  · exact RcOp.ge_int a b t u
theorem rc_lists {o : CmpOp} (ho : IsOrd o) {A : Around} {s : Shared} {l b : Addr} {xs ys : Array Value} {e r : Nat → Bool} (hl : s.heap.IsList l xs) (hb : s.heap.IsList b ys) (hu : A.units < cLine) (he : ∀ j (h1 : j < xs.size) (h2 : j < ys.size), EqAt A.in1 s xs[j] ys[j] (e j))
    (hr : ∀ j (h1 : j < xs.size) (h2 : j < ys.size), e j = false → RcOp o A.in1 s xs[j] ys[j] (r j)) : RcOp o A s (.ref l) (.ref b) (lexAt e r (opN o xs.size ys.size) 0 (min xs.size ys.size)) := by
  cases ho
  · exact GQ.lists_lt hl hb hu he hr
  · exact GQ.lists_le hl hb hu he hr
  · exact GQ.lists_gt hl hb hu he hr
  · exact GQ.lists_ge hl hb hu he hr
theorem rc_tups {o : CmpOp} (ho : IsOrd o) {A : Around} {s : Shared} {l b : Addr} {xs ys : Array Value} {e r : Nat → Bool} (hl : s.heap.IsTuple l xs) (hb : s.heap.IsTuple b ys) (hu : A.units < cLine) (he : ∀ j (h1 : j < xs.size) (h2 : j < ys.size), EqAt A.in1 s xs[j] ys[j] (e j))
    (hr : ∀ j (h1 : j < xs.size) (h2 : j < ys.size), e j = false → RcOp o A.in1 s xs[j] ys[j] (r j)) : RcOp o A s (.ref l) (.ref b) (lexAt e r (opN o xs.size ys.size) 0 (min xs.size ys.size)) := by
  cases ho
  · exact RcOp.tuples_lt hl hb hu he hr
  · exact RcOp.tuples_le hl hb hu he hr
  · exact RcOp.tuples_gt hl hb hu he hr
  · exact RcOp.tuples_ge hl hb hu he hr
theorem lex_ordL {o : CmpOp} {z : Bool} {e r : Nat → Bool} : ∀ (xs ys : List PyData) (i : Nat), (∀ j, e (i + j) = pairEq xs ys j) → (∀ j, j < min xs.length ys.length → r (i + j) = ordV o (xs.getD j .none) (ys.getD j .none)) →
    lexAt e r z i (min xs.length ys.length) = ordL o z xs ys
  | [], ys, i, _, _ => by
    rw [show min ([] : List PyData).length ys.length = 0 by simp, lexAt_zero]
    cases ys <;> simp [ordL]
  | x :: xs, [], i, _, _ => by
    rw [show min (x :: xs).length ([] : List PyData).length = 0 by simp, lexAt_zero]
    simp [ordL]
  | x :: xs, y :: ys, i, he, hr => by
    rw [show min (x :: xs).length (y :: ys).length = min xs.length ys.length + 1 by simp only [List.length_cons]; omega, lexAt_succ]
    have e0 := he 0
    have r0 := hr 0 (by simp only [List.length_cons]; omega)
    rw [Nat.add_zero] at e0 r0
    rw [e0, r0, lex_ordL xs ys (i + 1) (fun j => by rw [show i + 1 + j = i + (j + 1) by omega, he (j + 1)]; rfl) (fun j hj => by
      rw [show i + 1 + j = i + (j + 1) by omega, hr (j + 1) (by simp only [List.length_cons]; omega)]; rfl)]
    rw [ordL]
    rfl
theorem ra_len {h : Heap} : ∀ {vs : List Value} {ds : List PyData} {as : List Addr}, ReadsAll h vs ds as → vs.length = ds.length
  | _, _, _, .nil => rfl
  | _, _, _, .cons _ t => congrArg (· + 1) (ra_len t)
mutual
theorem rc_data {o : CmpOp} (ho : IsOrd o) : ∀ (d e : PyData) (A : Around) (s : Shared) (u v : Value) (as bs : List Addr), Reads s.heap u d as → Reads s.heap v e bs → ordOk d e = true → d.canLay0 = true → e.canLay0 = true → A.units + d.depth < cLine →
    RcOp o A s u v (ordV o d e)
  | .int a, e, A, s, _, _, _, _, r1, r2, h, _, _, hu => by
    cases e <;> simp only [ordOk, Bool.false_eq_true] at h
    cases r1
    cases r2
    rw [ordV]
    exact rc_int ho _ _ _ _
  | .list xs, e, A, s, _, _, _, _, r1, r2, h, l1, l2, hu => by
    cases e <;> simp only [ordOk, Bool.false_eq_true] at h
    rename_i ys
    have m1 : PyData.canLayAll0 xs = true := by simpa [PyData.canLay0] using l1
    have m2 : PyData.canLayAll0 ys = true := by simpa [PyData.canLay0] using l2
    have hd : (PyData.list xs).depth = PyData.depthAll xs + 1 := by simp [PyData.depth]
    cases r1 with
    | list p1 p2 p3 p4 =>
      rename_i oa vs na aa
      cases r2 with
      | list q1 q2 q3 q4 =>
        rename_i ob ws nb bb
        have n1 : vs.size = xs.length := by rw [← Array.length_toList]; exact ra_len p4
        have n2 : ws.size = ys.length := by rw [← Array.length_toList]; exact ra_len q4
        have step := rc_lists ho (A := A) (s := s) (e := pairEq xs ys) (r := fun j => ordV o (xs.getD j .none) (ys.getD j .none)) ⟨_, p1, p2, _, p3⟩ ⟨_, q1, q2, _, q3⟩ (by omega) (fun j h1 h2 => by
          have k := eqAt_readsAll xs ys A.in1 s _ _ _ _ p4 q4 m1 m2 (by have : A.in1.units = A.units + 1 := rfl; omega) j (by simpa using h1) (by simpa using h2)
          simpa using k) (fun j h1 h2 hj => by
          have k := rc_dataAll ho xs ys A.in1 s _ _ _ _ p4 q4 h m1 m2 (by have : A.in1.units = A.units + 1 := rfl; omega) j (by simpa using h1) (by simpa using h2) hj
          simpa using k)
        rw [n1, n2, lex_ordL xs ys 0 (fun j => by rw [Nat.zero_add]) (fun j _ => by rw [Nat.zero_add])] at step
        rw [ordV]
        exact step
  | .tuple xs, e, A, s, _, _, _, _, r1, r2, h, l1, l2, hu => by
    cases e <;> simp only [ordOk, Bool.false_eq_true] at h
    rename_i ys
    have m1 : PyData.canLayAll0 xs = true := by simpa [PyData.canLay0] using l1
    have m2 : PyData.canLayAll0 ys = true := by simpa [PyData.canLay0] using l2
    have hd : (PyData.tuple xs).depth = PyData.depthAll xs + 1 := by simp [PyData.depth]
    cases r1 with
    | tuple p1 p2 p3 p4 =>
      rename_i aa oa vs na
      cases r2 with
      | tuple q1 q2 q3 q4 =>
        rename_i bb ob ws nb
        have n1 : vs.size = xs.length := by rw [← Array.length_toList]; exact ra_len p4
        have n2 : ws.size = ys.length := by rw [← Array.length_toList]; exact ra_len q4
        have step := rc_tups ho (A := A) (s := s) (e := pairEq xs ys) (r := fun j => ordV o (xs.getD j .none) (ys.getD j .none)) ⟨_, p1, p2, _, p3⟩ ⟨_, q1, q2, _, q3⟩ (by omega) (fun j h1 h2 => by
          have k := eqAt_readsAll xs ys A.in1 s _ _ _ _ p4 q4 m1 m2 (by have : A.in1.units = A.units + 1 := rfl; omega) j (by simpa using h1) (by simpa using h2)
          simpa using k) (fun j h1 h2 hj => by
          have k := rc_dataAll ho xs ys A.in1 s _ _ _ _ p4 q4 h m1 m2 (by have : A.in1.units = A.units + 1 := rfl; omega) j (by simpa using h1) (by simpa using h2) hj
          simpa using k)
        rw [n1, n2, lex_ordL xs ys 0 (fun j => by rw [Nat.zero_add]) (fun j _ => by rw [Nat.zero_add])] at step
        rw [ordV]
        exact step
  | .none, _, _, _, _, _, _, _, _, _, h, _, _, _ => by simp [ordOk] at h
  | .bool _, _, _, _, _, _, _, _, _, _, h, _, _, _ => by simp [ordOk] at h
  | .str _, _, _, _, _, _, _, _, _, _, h, _, _, _ => by simp [ordOk] at h
  | .dict _, _, _, _, _, _, _, _, _, _, h, _, _, _ => by simp [ordOk] at h
theorem rc_dataAll {o : CmpOp} (ho : IsOrd o) : ∀ (xs ys : List PyData) (A : Around) (s : Shared) (us vs : List Value) (as bs : List Addr), ReadsAll s.heap us xs as → ReadsAll s.heap vs ys bs → ordOkL xs ys = true → PyData.canLayAll0 xs = true → PyData.canLayAll0 ys = true →
    A.units + PyData.depthAll xs < cLine → ∀ j (h1 : j < us.length) (h2 : j < vs.length), pairEq xs ys j = false → RcOp o A s us[j] vs[j] (ordV o (xs.getD j .none) (ys.getD j .none))
  | [], _, _, _, _, _, _, _, ra, _, _, _, _, _, j, h1, _, _ => by cases ra; exact absurd h1 (Nat.not_lt_zero _)
  | _ :: _, [], _, _, _, _, _, _, _, rb, _, _, _, _, j, _, h2, _ => by cases rb; exact absurd h2 (Nat.not_lt_zero _)
  | x :: xs, y :: ys, A, s, _, _, _, _, ra, rb, h, m1, m2, hu, j, h1, h2, hj => by
    have a1 : x.canLay0 = true ∧ PyData.canLayAll0 xs = true := by simpa [PyData.canLayAll0] using m1
    have a2 : y.canLay0 = true ∧ PyData.canLayAll0 ys = true := by simpa [PyData.canLayAll0] using m2
    have hh : (PyData.eqv x y = true ∨ ordOk x y = true) ∧ ordOkL xs ys = true := by simpa [ordOkL] using h
    have hd : x.depth ≤ PyData.depthAll (x :: xs) ∧ PyData.depthAll xs ≤ PyData.depthAll (x :: xs) := by
      simp only [PyData.depthAll]
      omega
    cases ra with
    | cons ra1 ra2 =>
      cases rb with
      | cons rb1 rb2 =>
        cases j with
        | zero =>
          have hj' : PyData.eqv x y = false := hj
          have ok : ordOk x y = true := by
            rcases hh.1 with z | z
            · rw [hj'] at z
              cases z
            · exact z
          exact rc_data ho x y A s _ _ _ _ ra1 rb1 ok a1.1 a2.1 (by omega)
        | succ j => exact rc_dataAll ho xs ys A s _ _ _ _ ra2 rb2 hh.2 a1.2 a2.2 (by omega) j (Nat.lt_of_succ_lt_succ h1) (Nat.lt_of_succ_lt_succ h2) hj
end
/-- x op y of data that can be ordered -/
def rOrdD (K : PySem.W.Frag) (o : CmpOp) : R2 := fun x y H Q => ∃ d e, Dp K H x d ∧ Dp K H y e ∧ ordOk d e = true ∧ d.canLay0 = true ∧ e.canLay0 = true ∧ d.depth ≤ 60 ∧ Q (.bl (ordV o d e)) H
section
variable {X : Cx}
theorem op_ordD {o : CmpOp} (ho : IsOrd o) (hu : X.A.units + 64 < cLine) : OpR X (compareOp o) (rOrdD X.K o) := by
  intro pins s σ H x y v u Q I rx ry h
  obtain ⟨d, e, hd, he, ok, l1, l2, dp, q⟩ := h
  obtain ⟨as, r1⟩ := Dp.reads I d x v hd rx
  obtain ⟨bs, r2⟩ := Dp.reads I e y u he ry
  have go := rc_data ho d e X.A s v u as bs r1 r2 ok l1 l2 (by omega) X.prog X.w X.xe _ (show EP X pins σ Q (.bool (ordV o d e)) s from ⟨.bl _, H, I, rfl, q⟩)
  cases ho <;> exact go
end
end UL
set_option Elab.async false
set_option linter.all false
set_option maxRecDepth 100000
set_option maxHeartbeats 4000000
namespace UL
open PySem PySem.Spec PyProof.Rows L2
/-! ### comprehensions whose elements leave the heap's objects alone (but a pot) -/
section
variable {J : It} {n : Nat} {G : Hp → Prop} {Y : Nat → Hp → V → Hp → Prop} {g : TG} {tt : TT} {te : TE} {vs : List Nat} {σ : L2.St} {H1 : Hp} {D : Addr} {Qd : Hp → Prop}
/-- what lc_it says -/
def LcW (J : It) (g : TG) (tt : TT) (te : TE) (vs : List Nat) (σ : L2.St) (H1 : Hp) (D : Addr) (Qd : Hp → Prop) : Prop :=
    ∃ W : Nat → Nat → Hp → Prop, (∃ m, W 0 m (upd H1 D (.lst []))) ∧ ∀ i m H, W i m H →
      (J.stop i H ∧ Qd H) ∨ (J.go i H ∧ ∃ Nx : Hp → Prop, (∀ H', Nx H' → ∃ m', m' < m ∧ W (i + 1) m' H') ∧ ∀ x H', J.yld i H x H' → g x (wipe σ vs) H' fun σ2 H2 => wipe σ2 vs = wipe σ vs ∧ tt σ2 H2 fun b H3 =>
        if b = true then te σ2 H3 fun y H4 => ∃ acc, H4 D = some (.lst acc) ∧ acc.length < sizeLine ∧ Nx (upd H4 D (.lst (acc ++ [y]))) else Nx H3)
/-- the i-th element is f i -/
theorem lc_same (w : Walk J n G Y) (hD : H1 D = none) (f : Nat → V) (hn : n ≤ 16000000) (hG : ∀ H, L2.Same H1 H → G H)
    (hs : ∀ i x H H', i < n → L2.Same H1 H → Y i H x H' → ∀ R : V → Hp → Prop, (∀ H4, L2.Same H H4 → R (f i) H4) → g x (wipe σ vs) H' fun σ2 H2 => wipe σ2 vs = wipe σ vs ∧ te σ2 H2 R)
    (hd : ∀ H, L2.Same H1 H → H D = some (.lst ((List.range n).map f)) → Qd H) : LcW J g tYes te vs σ H1 D Qd := by
  refine lc_it w (fun i H => H D = some (.lst ((List.range i).map f)) ∧ L2.Same H1 H) ⟨upd_same, same_new hD⟩ (fun i H _ p => hG H p.2) (fun i x H H' hi p y => ?_) fun H p => hd H p.2 p.1
  refine hs i x H H' hi p.2 y _ fun H4 s4 => ?_
  refine ⟨_, s4 _ _ p.1, line_gt (by rw [List.length_map, List.length_range]; omega), ?_, ?_⟩
  · rw [List.range_succ, List.map_append]
    exact upd_same
  · intro b o e
    rw [upd_ne (ne_of_none e hD)]
    exact s4 _ _ (p.2 _ _ e)
/-- some of them are kept -/
theorem lc_filt (w : Walk J n G Y) (hD : H1 D = none) (b : Nat → Bool) (f : Nat → V) (hn : n ≤ 16000000) (hG : ∀ H, L2.Same H1 H → G H)
    (hs : ∀ i x H H', i < n → L2.Same H1 H → Y i H x H' → ∀ (R : V → Hp → Prop) (Z : Hp → Prop), (b i = true → ∀ H4, L2.Same H H4 → R (f i) H4) → (b i = false → ∀ H4, L2.Same H H4 → Z H4) → g x (wipe σ vs) H' fun σ2 H2 => wipe σ2 vs = wipe σ vs ∧ tt σ2 H2 fun c H3 => if c = true then te σ2 H3 R else Z H3)
    (hd : ∀ H, L2.Same H1 H → H D = some (.lst (((List.range n).filter b).map f)) → Qd H) : LcW J g tt te vs σ H1 D Qd := by
  refine lc_it w (fun i H => H D = some (.lst (((List.range i).filter b).map f)) ∧ L2.Same H1 H) ⟨upd_same, same_new hD⟩ (fun i H _ p => hG H p.2) (fun i x H H' hi p y => ?_) fun H p => hd H p.2 p.1
  refine hs i x H H' hi p.2 y _ _ (fun c H4 s4 => ?_) fun c H4 s4 => ?_
  · refine ⟨_, s4 _ _ p.1, line_gt (by rw [List.length_map]; have := List.length_filter_le b (List.range i); rw [List.length_range] at this; omega), ?_, ?_⟩
    · rw [List.range_succ, List.filter_append, List.map_append, List.filter_cons_of_pos c]
      exact upd_same
    · intro b o e
      rw [upd_ne (ne_of_none e hD)]
      exact s4 _ _ (p.2 _ _ e)
  · refine ⟨?_, p.2.trans s4⟩
    rw [List.range_succ, List.filter_append, List.map_append, List.filter_cons_of_neg (by rw [c]; exact Bool.false_ne_true)]
    simp only [List.filter_nil, List.map_nil, List.append_nil]
    exact s4 _ _ p.1
/-- all but lists stay -/
def Keep (H H' : Hp) : Prop := ∀ b o, H b = some o → (∀ xs, o ≠ .lst xs) → H' b = some o
theorem Keep.refl (H : Hp) : Keep H H := fun _ _ h _ => h
theorem Keep.trans {H H1 H2 : Hp} (a : Keep H H1) (b : Keep H1 H2) : Keep H H2 := fun c o h n => b c o (a c o h n) n
theorem Same.keep {H H' : Hp} (s : L2.Same H H') : Keep H H' := fun b o h _ => s b o h
theorem Stay.keep {H H' : Hp} {p : Addr} (s : Stay p H H') (hp : Pot H p) : Keep H H' := fun b o h n => by
  obtain ⟨x, y, e, _⟩ := hp
  exact s b o (fun z => n _ (Option.some.inj (h.symm.trans (by rw [z]; exact e)))) h
theorem Keep.ins {H H' : Hp} {a C dx : Addr} {fs : List (Str × V)} (k : Keep H H') (h : H a = some (.ins C dx fs)) : H' a = some (.ins C dx fs) := k _ _ h fun xs z => by cases z
theorem Keep.tup {H H' : Hp} {a : Addr} {xs : List V} (k : Keep H H') (h : H a = some (.tup xs)) : H' a = some (.tup xs) := k _ _ h fun xs z => by cases z
/-- the elements tell R; a pot may change -/
theorem lc_stay (w : Walk J n G Y) {p : Addr} (hD : H1 D = none) (hp : Pot H1 p) (R : Nat → V → Hp → Prop)
    (mono : ∀ i v H H', R i v H → (∃ xs, H D = some (.lst xs)) → Pot H p → (∀ b o, b ≠ p → b ≠ D → H b = some o → H' b = some o) → R i v H') (hn : n ≤ 16000000) (hG : ∀ H, Stay p H1 H → Pot H p → G H)
    (hs : ∀ i x H H', i < n → Stay p H1 H → Pot H p → Y i H x H' → ∀ Z : V → Hp → Prop, (∀ y H4, R i y H4 → Stay p H H4 → Pot H4 p → Z y H4) → g x (wipe σ vs) H' fun σ2 H2 => wipe σ2 vs = wipe σ vs ∧ te σ2 H2 Z)
    (hd : ∀ H ys, ys.length = n → (∀ i y, ys[i]? = some y → R i y H) → Stay p H1 H → Pot H p → H D = some (.lst ys) → Qd H) : LcW J g tYes te vs σ H1 D Qd := by
  obtain ⟨a0, b0, e0, _⟩ := id hp
  have np : D ≠ p := (ne_of_none e0 hD).symm
  refine lc_it w (fun i H => ∃ ys : List V, ys.length = i ∧ (∀ j y, ys[j]? = some y → R j y H) ∧ H D = some (.lst ys) ∧ Stay p H1 H ∧ Pot H p) ⟨[], rfl, fun j y z => by simp at z, upd_same, Same.stay (same_new hD) p, hp.same (same_new hD)⟩
    (fun i H _ ⟨_, _, _, _, s, q⟩ => hG H s q) (fun i x H H' hi ⟨ys, l, r, d, s, q⟩ y => ?_) fun H ⟨ys, l, r, d, s, q⟩ => hd H ys l r s q d
  refine hs i x H H' hi s q y _ fun y H4 ry s4 q4 => ?_
  have d4 : H4 D = some (.lst ys) := s4 _ _ np d
  have mv : ∀ (b : Addr) (o : HO), b ≠ p → b ≠ D → H4 b = some o → upd H4 D (.lst (ys ++ [y])) b = some o := fun b o _ n e => by rw [upd_ne n]; exact e
  refine ⟨ys, d4, line_gt (by omega), ys ++ [y], by rw [List.length_append, l]; rfl, fun j z hz => ?_, upd_same, ?_, ?_⟩
  · rw [List.getElem?_append] at hz
    split at hz
    · exact mono j z H4 _ (mono j z H H4 (r j z hz) ⟨_, d⟩ q fun b o n1 _ e => s4 b o n1 e) ⟨_, d4⟩ q4 mv
    · have e : j = i ∧ y = z := by
        have hl : j - ys.length < 1 := by
          have := (List.getElem?_eq_some_iff.mp hz).1
          simpa using this
        have : j - ys.length = 0 := by omega
        rw [this] at hz
        simp at hz
        exact ⟨by omega, hz⟩
      obtain ⟨rfl, rfl⟩ := e
      exact mono _ _ H4 _ ry ⟨_, d4⟩ q4 mv
  · intro b o n e
    rw [upd_ne (ne_of_none e hD)]
    exact s4 _ _ n (s _ _ n e)
  · obtain ⟨a4, b4, e4, r4⟩ := q4
    exact ⟨a4, b4, by rw [upd_ne np.symm]; exact e4, r4⟩
/-- .. where R speaks of no lists -/
theorem lc_keep (w : Walk J n G Y) {p : Addr} (hD : H1 D = none) (hp : Pot H1 p) (R : Nat → V → Hp → Prop) (mono : ∀ i v H H', R i v H → Keep H H' → R i v H') (hn : n ≤ 16000000) (hG : ∀ H, Stay p H1 H → Pot H p → G H)
    (hs : ∀ i x H H', i < n → Stay p H1 H → Pot H p → Y i H x H' → ∀ Z : V → Hp → Prop, (∀ y H4, R i y H4 → Stay p H H4 → Pot H4 p → Z y H4) → g x (wipe σ vs) H' fun σ2 H2 => wipe σ2 vs = wipe σ vs ∧ te σ2 H2 Z)
    (hd : ∀ H ys, ys.length = n → (∀ i y, ys[i]? = some y → R i y H) → Stay p H1 H → Pot H p → H D = some (.lst ys) → Qd H) : LcW J g tYes te vs σ H1 D Qd :=
  lc_stay w hD hp R (fun i v H H' r ⟨xs, d⟩ ⟨a, b, e, _⟩ k => mono i v H H' r fun c o h n => k c o (fun z => n _ (Option.some.inj (h.symm.trans ((congrArg H z).trans e)))) (fun z => n _ (Option.some.inj (h.symm.trans ((congrArg H z).trans d)))) h) hn hG hs hd
end
/-- row by row -/
def Each {α : Type} (R : V → α → Prop) (vs : List V) (ds : List α) : Prop := vs.length = ds.length ∧ ∀ (i : Nat) v d, vs[i]? = some v → ds[i]? = some d → R v d
section
variable {α : Type} {R R' : V → α → Prop}
theorem Each.nil : Each R [] [] := ⟨rfl, fun i v d h => by simp at h⟩
theorem Each.imp {vs : List V} {ds : List α} (e : Each R vs ds) (h : ∀ v d, R v d → R' v d) : Each R' vs ds := ⟨e.1, fun i v d h1 h2 => h v d (e.2 i v d h1 h2)⟩
theorem Each.cons {v : V} {d : α} {vs : List V} {ds : List α} (h : R v d) (e : Each R vs ds) : Each R (v :: vs) (d :: ds) := ⟨by rw [List.length_cons, List.length_cons, e.1], fun i x y h1 h2 => by
  cases i with
  | zero =>
    simp at h1 h2
    rw [← h1, ← h2]
    exact h
  | succ i => exact e.2 i x y (by simpa using h1) (by simpa using h2)⟩
theorem Each.app {vs us : List V} {ds es : List α} (a : Each R vs ds) (b : Each R us es) : Each R (vs ++ us) (ds ++ es) := by
  induction vs generalizing ds with
  | nil =>
    cases ds with
    | nil => exact b
    | cons d ds => exact absurd a.1 (by simp)
  | cons v vs ih =>
    cases ds with
    | nil => exact absurd a.1 (by simp)
    | cons d ds => exact Each.cons (a.2 0 v d rfl rfl) (ih ⟨by have := a.1; simpa using this, fun i x y h1 h2 => a.2 (i + 1) x y (by simpa using h1) (by simpa using h2)⟩)
theorem Each.one {v : V} {d : α} (h : R v d) : Each R [v] [d] := Each.cons h Each.nil
theorem Each.at {vs : List V} {ds : List α} (e : Each R vs ds) {i : Nat} {v : V} (h : vs[i]? = some v) : ∃ d, ds[i]? = some d ∧ R v d := by
  have hl := (List.getElem?_eq_some_iff.mp h).1
  have hl2 : i < ds.length := by rw [← e.1]; exact hl
  exact ⟨ds[i], List.getElem?_eq_getElem hl2, e.2 i v _ h (List.getElem?_eq_getElem hl2)⟩
theorem Each.atD {vs : List V} {ds : List α} (e : Each R vs ds) {i : Nat} {d : α} (h : ds[i]? = some d) : ∃ v, vs[i]? = some v ∧ R v d := by
  have hl := (List.getElem?_eq_some_iff.mp h).1
  have hl2 : i < vs.length := by rw [e.1]; exact hl
  exact ⟨vs[i], List.getElem?_eq_getElem hl2, e.2 i _ d (List.getElem?_eq_getElem hl2) h⟩
theorem Each.of_map {β : Type} {f : β → V} {g : β → α} {l : List β} (h : ∀ x ∈ l, R (f x) (g x)) : Each R (l.map f) (l.map g) := ⟨by simp, fun i v d h1 h2 => by
  rw [List.getElem?_map] at h1 h2
  obtain ⟨x, e1, rfl⟩ := Option.map_eq_some_iff.mp h1
  obtain ⟨y, e2, rfl⟩ := Option.map_eq_some_iff.mp h2
  rw [e1] at e2
  cases e2
  exact h x (List.mem_of_getElem? e1)⟩
end
/-- a row written by its places -/
theorem range_map {α : Type} {f : Nat → α} {l : List α} (h : ∀ i (hi : i < l.length), f i = l[i]) : (List.range l.length).map f = l := by
  refine List.ext_getElem (by simp) fun i h1 h2 => ?_
  rw [List.getElem_map, List.getElem_range]
  exact h i h2
end UL
set_option Elab.async false
set_option linter.all false
set_option maxRecDepth 100000
set_option maxHeartbeats 4000000
namespace UL
open PySem PySem.Spec PyProof.Rows L2
section
variable {J : It} {n : Nat} {G : Hp → Prop} {Y : Nat → Hp → V → Hp → Prop} {g : TG} {tb : TS} {σ : L2.St} {H1 : Hp} {D : Ends}
/-- a for whose turns leave all objects alone: P by the turn and the slots -/
theorem fr_same (w : Walk J n G Y) (P : Nat → L2.St → Prop) (h0 : P 0 σ) (hG : ∀ H, L2.Same H1 H → G H)
    (hs : ∀ i x σ H H', i < n → L2.Same H1 H → P i σ → Y i H x H' → ∀ Z : L2.St → Hp → Prop, (∀ σ2 H2, P (i + 1) σ2 → L2.Same H H2 → Z σ2 H2) → g x σ H' fun σ2 H2 => tb { D with nx := Z, ct := Z, bk := D.nx } σ2 H2)
    (hd : ∀ σ H, P n σ → L2.Same H1 H → D.nx σ H) : WalkE J g tb D σ H1 :=
  for_it w (fun i σ H => P i σ ∧ L2.Same H1 H) ⟨h0, L2.Same.refl _⟩ (fun i σ H _ p => hG H p.2) (fun i x σ H H' hi p y => hs i x σ H H' hi p.2 p.1 y _ fun σ2 H2 p2 s2 => ⟨p2, p.2.trans s2⟩) fun σ H p => hd σ H p.1 p.2
/-- .. but a pot: P by the turn, the slots and the heap -/
theorem fr_stay (w : Walk J n G Y) {p : Addr} (hp : Pot H1 p) (P : Nat → L2.St → Hp → Prop) (h0 : P 0 σ H1) (hG : ∀ H, Stay p H1 H → Pot H p → G H)
    (hs : ∀ i x σ H H', i < n → Stay p H1 H → Pot H p → P i σ H → Y i H x H' → ∀ Z : L2.St → Hp → Prop, (∀ σ2 H2, P (i + 1) σ2 H2 → Stay p H H2 → Pot H2 p → Z σ2 H2) → g x σ H' fun σ2 H2 => tb { D with nx := Z, ct := Z, bk := D.nx } σ2 H2)
    (hd : ∀ σ H, P n σ H → Stay p H1 H → Pot H p → D.nx σ H) : WalkE J g tb D σ H1 :=
  for_it w (fun i σ H => P i σ H ∧ Stay p H1 H ∧ Pot H p) ⟨h0, Stay.refl _ _, hp⟩ (fun i σ H _ q => hG H q.2.1 q.2.2) (fun i x σ H H' hi q y => hs i x σ H H' hi q.2.1 q.2.2 q.1 y _ fun σ2 H2 p2 s2 q2 => ⟨p2, q.2.1.trans s2, q2⟩) fun σ H q => hd σ H q.1 q.2.1 q.2.2
end
theorem over_look2 {H : Hp} {x p : Addr} {o o' u : HO} (h : H p = some u) (hx : H x = some o') (n : u ≠ o') : upd H x o p = some u := by rw [upd_ne (ne_of h hx n)]; exact h
theorem kit_own {K : PySem.W.Frag} {C : Addr} : PySem.W.kitOne K (.ref C) (.ref C) = some true := by simp [PySem.W.kitOne]
/-! ### parts of rows -/
theorem cut_to (xs : List V) (i : Nat) : cutV xs none (some (i : Int)) = xs.take i := by
  unfold cutV
  rw [HT.sIx_nat, HT.sIx_none, List.drop_zero, Nat.sub_zero]
  rcases Nat.le_total i xs.length with h | h
  · rw [Nat.min_eq_left h]
  · rw [Nat.min_eq_right h, List.take_of_length_le (Nat.le_refl _), List.take_of_length_le h]
theorem cut_from (xs : List V) (i : Nat) : cutV xs (some (i : Int)) none = xs.drop i := by
  unfold cutV
  rw [HT.sIx_nat, HT.sIx_none]
  rcases Nat.le_total i xs.length with h | h
  · rw [Nat.min_eq_left h]
    exact List.take_of_length_le (by simp)
  · rw [Nat.min_eq_right h, List.drop_of_length_le (Nat.le_refl _), List.drop_of_length_le h, List.take_nil]
theorem range_getD {l : List V} {d : V} : (List.range l.length).map (fun i => l.getD i d) = l := range_map fun i h => by simp [h]
theorem flat_strs (xs : List Str) : (xs.map V.str).all flatV = true := by simp [flatV]
theorem flat_ints (xs : List Int) : (xs.map V.int).all flatV = true := by simp [flatV]
theorem in_strs (x : Str) (xs : List Str) : inV (.str x) (xs.map V.str) = decide (x ∈ xs) := by
  unfold inV
  rw [Bool.eq_iff_iff, List.any_eq_true, decide_eq_true_iff]
  constructor
  · rintro ⟨v, hv, e⟩
    obtain ⟨y, hy, rfl⟩ := List.mem_map.mp hv
    have : x = y ∨ y = x := by
      simp [eqV] at e
      first | exact .inl e | exact .inr e
    rcases this with rfl | rfl <;> exact hy
  · intro h
    exact ⟨.str x, List.mem_map.mpr ⟨x, h, rfl⟩, eqV_self_str x⟩
theorem not_ahead {α : Type} : ∀ {l : List α} {i : Nat} {x : α}, l.Nodup → l[i]? = some x → x ∉ l.take i
  | [], i, x, _, h => by simp at h
  | y :: l, 0, x, _, _ => by simp
  | y :: l, i + 1, x, nd, h => by
    rw [List.nodup_cons] at nd
    have h' : l[i]? = some x := by simpa using h
    intro hm
    rw [List.take_succ_cons, List.mem_cons] at hm
    rcases hm with rfl | hm
    · exact nd.1 (List.mem_of_getElem? h')
    · exact not_ahead nd.2 h' hm
/-- t + u of tuples, any -/
def rCatS : R2 := fun x y H Q => ∃ a b xs ys, x = .ref a ∧ y = .ref b ∧ H a = some (.tup xs) ∧ H b = some (.tup ys) ∧ xs.length + ys.length ≤ sizeLine ∧ ∀ p H', L2.Same H H' → H' p = some (.tup (xs ++ ys)) → Q (.ref p) H'
theorem op_catS {X : Cx} : OpR X (binaryOp .Add) rCatS := by
  intro pins s σ H x y v u Q I rx ry h
  obtain ⟨a, b, xs, ys, rfl, rfl, ha, hb, hz, q⟩ := h
  refine op_catA pins s σ H _ _ v u Q I rx ry ⟨a, b, xs, ys, rfl, rfl, SqT.of ha, SqT.of hb, hz, fun e => ?_, fun _ e => ?_, fun _ _ p hp => ?_⟩
  · refine q b H (L2.Same.refl _) ?_
    rw [e]
    exact hb
  · refine q a H (L2.Same.refl _) ?_
    rw [e, List.append_nil]
    exact ha
  · exact q p _ (same_new hp) upd_same
theorem walk_enumT {K : PySem.W.Frag} {a : Addr} {xs : List V} : Walk (Itet K a) xs.length (fun H => SqT K H a xs) (YPair (fun i => some (.int (i : Nat))) (fun i => xs[i]?)) := by
  refine ⟨fun i _ hi q => ⟨xs, xs[i], q, by simp [hi]⟩, fun _ q => ⟨xs, q, rfl⟩, fun i H v H' _ q y => ?_⟩
  obtain ⟨T, x, h1, h2, h3, h4⟩ := y
  exact ⟨T, .int (i : Nat), x, h1, h2, h3, rfl, h4 xs q⟩
/-- a thing that comes once at most stands once at most -/
theorem once_ahead {l : List Str} {x : Str} (h : l.count x ≤ 1) {i : Nat} (hi : l[i]? = some x) : x ∉ l.take i := by
  intro hm
  have e : l = l.take i ++ l.drop i := (List.take_append_drop i l).symm
  have h2 : x ∈ l.drop i := by
    refine List.mem_of_getElem? (i := 0) ?_
    rw [List.getElem?_drop, Nat.add_zero]
    exact hi
  have h3 := List.count_pos_iff.mpr hm
  have h4 := List.count_pos_iff.mpr h2
  rw [e, List.count_append] at h
  omega
theorem mem_take_succ {l : List Str} {x y : Str} {i : Nat} (hi : l[i]? = some y) : x ∈ l.take (i + 1) ↔ x ∈ l.take i ∨ x = y := by
  have hl := (List.getElem?_eq_some_iff.mp hi)
  obtain ⟨h1, h2⟩ := hl
  rw [List.take_succ_eq_append_getElem h1, List.mem_append, List.mem_singleton, h2]
/-! ### what is read within a comprehension speaks of the same fragment -/
theorem pe_conv {X : Cx} {e : Expr} {t t' : TE} (h : PE X e t) (q : t = t') : PE X e t' := q ▸ h
theorem pts_conv {X : Cx} {es : List Expr} {t t' : TT} (h : PTs X es t) (q : t = t') : PTs X es t' := q ▸ h
theorem blk_K {X : Cx} {s : Shared} {H : Hp} {scope : Scope} {env : Env} {fp : List Addr} : (X.blk s H scope env fp).K = X.K := rfl
theorem nox_K {X : Cx} : X.nox.K = X.K := rfl
theorem cxOf_K {CX : CXT} {P : Program} {w : World} {K : PySem.W.Frag} {mg : Str → Option Value} {base : Heap} {N : List Str} {qual : Str} {scope : Scope} {f : Addr} {cdv : Value} {A : Around} {outer : List Env} {s : Shared} {H : Hp} {E : XK} : (cxOf CX P w K mg base N qual scope f cdv A outer s H E).K = K := rfl
/-- where a text stands first -/
theorem idx_strs {al : List Str} {l : Str} (h : l ∈ al) : (al.map V.str)[al.idxOf l]? = some (.str l) ∧ eqV (.str l) (.str l) = true ∧ ∀ (m : Nat) (z : V), m < al.idxOf l → (al.map V.str)[m]? = some z → eqV z (.str l) = false := by
  have hl := List.idxOf_lt_length_iff.mpr h
  refine ⟨by rw [List.getElem?_map, List.getElem?_eq_getElem hl, List.getElem_idxOf hl]; rfl, eqV_self_str l, fun m z hm hz => ?_⟩
  rw [List.getElem?_map] at hz
  obtain ⟨y, hy, rfl⟩ := Option.map_eq_some_iff.mp hz
  have ne : y ≠ l := by
    intro e
    have := List.not_of_lt_findIdx (p := (· == l)) (xs := al) hm
    obtain ⟨h1, h2⟩ := List.getElem?_eq_some_iff.mp hy
    simp only [h2, e] at this
    simp at this
  simp only [eqV]
  simpa using ne
theorem ty_lst {K : PySem.W.Frag} {H : Hp} {p : Addr} {xs : List V} (h : H p = some (.lst xs)) : tyV K "list" (.ref p) H := .inl ⟨rfl, xs, SqL.of h⟩
theorem Stay.seqL {K : PySem.W.Frag} {p l : Addr} {H H' : Hp} {xs : List V} (s : Stay p H H') (n : l ≠ p) (h : SqL K H l xs) : SqL K H' l xs := by
  rcases h with (h | ⟨o, h⟩) | h
  · exact .inl (.inl (s _ _ n h))
  · exact .inl (.inr ⟨o, s _ _ n h⟩)
  · exact .inr h
theorem Stay.lookN {H H' : Hp} {p a : Addr} {o : HO} (s : Stay p H H') (n : a ≠ p) (h : H a = some o) : H' a = some o := s _ _ n h
theorem ne_pot {H : Hp} {b p : Addr} (hb : H b = none) (hp : Pot H p) : b ≠ p := by
  obtain ⟨x, y, e, _⟩ := hp
  exact ne_new hb e
/-- one of a written row -/
theorem at_ints {ns : List Int} {i : Nat} {v : V} (h : (ns.map V.int)[i]? = some v) : ∃ n ∈ ns, v = .int n := by
  rw [List.getElem?_map] at h
  obtain ⟨n, h1, h2⟩ := Option.map_eq_some_iff.mp h
  exact ⟨n, List.mem_of_getElem? h1, h2.symm⟩
theorem at_strs {ns : List Str} {i : Nat} {v : V} (h : (ns.map V.str)[i]? = some v) : ∃ n ∈ ns, v = .str n := by
  rw [List.getElem?_map] at h
  obtain ⟨n, h1, h2⟩ := Option.map_eq_some_iff.mp h
  exact ⟨n, List.mem_of_getElem? h1, h2.symm⟩
/-- a written row of texts, found in the heap -/
theorem strs_of {ys : List V} {R : Str → Prop} (h : ∀ (i : Nat) y, ys[i]? = some y → ∃ x, R x ∧ y = .str x) : ∃ zs : List Str, ys = zs.map V.str ∧ ∀ z ∈ zs, R z := by
  induction ys with
  | nil => exact ⟨[], rfl, fun z h => by cases h⟩
  | cons y ys ih =>
    obtain ⟨x, rx, rfl⟩ := h 0 y rfl
    obtain ⟨zs, e, hz⟩ := ih fun i z hz => h (i + 1) z (by simpa using hz)
    exact ⟨x :: zs, by rw [e]; rfl, fun z hz' => by
      rcases List.mem_cons.mp hz' with rfl | hz'
      · exact rx
      · exact hz z hz'⟩
theorem Stay.over {H H' : Hp} {p D : Addr} {o : HO} (s : Stay p H H') (hD : H D = none) : Stay p H (upd H' D o) := fun b u n e => by rw [upd_ne (ne_of_none e hD)]; exact s b u n e
theorem Pot.over {H : Hp} {p D : Addr} {o : HO} (h : Pot H p) (n : D ≠ p) : Pot (upd H D o) p := by
  obtain ⟨a, b, e, r⟩ := h
  exact ⟨a, b, by rw [upd_ne n.symm]; exact e, r⟩
/-- a statement that the walk leaves alone -/
@[irreducible] def Hold (P : Prop) : Prop := P
theorem Hold.mk {P : Prop} (h : P) : Hold P := by unfold Hold; exact h
theorem Hold.out {P : Prop} (h : Hold P) : P := by unfold Hold at h; exact h
theorem range_filt {l : List Str} {d : Str} (b : Str → Bool) (f : Str → V) {n : Nat} (hn : n = l.length) : ((List.range n).filter fun u => b (l.getD u d)).map (fun u => f (l.getD u d)) = (l.filter b).map f := by
  subst hn
  have e : (List.range l.length).map (fun u => l.getD u d) = l := range_map fun i h => by simp [h]
  have h := List.filter_map (p := b) (f := fun u => l.getD u d) (l := List.range l.length)
  rw [e] at h
  rw [h, List.map_map]
  rfl
/-- a datum for each of a row -/
theorem each_choose {α : Type} : ∀ {ys : List V} {R : Nat → V → α → Prop}, (∀ (i : Nat) y, ys[i]? = some y → ∃ k, R i y k) → ∃ ks : List α, ks.length = ys.length ∧ ∀ (i : Nat) y k, ys[i]? = some y → ks[i]? = some k → R i y k
  | [], R, h => ⟨[], rfl, fun i y k e => by simp at e⟩
  | y :: ys, R, h => by
    obtain ⟨k, hk⟩ := h 0 y rfl
    obtain ⟨ks, l, h2⟩ := each_choose (ys := ys) (R := fun i => R (i + 1)) fun i z e => h (i + 1) z (by simpa using e)
    refine ⟨k :: ks, by simp [l], fun i z q e1 e2 => ?_⟩
    cases i with
    | zero =>
      simp at e1 e2
      subst e1 e2
      exact hk
    | succ i => exact h2 i z q (by simpa using e1) (by simpa using e2)
theorem Stay.none {H H' : Hp} {p D : Addr} (s : Stay p H H') (hp : Pot H' p) (h : H' D = none) : H D = none := by
  cases e : H D with
  | none => rfl
  | some o =>
    by_cases c : D = p
    · obtain ⟨a, b, e', _⟩ := hp
      rw [c, e'] at h
      cases h
    · rw [s _ _ c e] at h
      cases h
theorem at_strs' {ns : List Str} {i : Nat} {v : V} (h : (ns.map V.str)[i]? = some v) : ∃ n, ns[i]? = some n ∧ v = .str n := by
  rw [List.getElem?_map] at h
  obtain ⟨n, h1, h2⟩ := Option.map_eq_some_iff.mp h
  exact ⟨n, h1, h2.symm⟩
/-- an if whose one way ends; what comes behind is shown once -/
theorem seq_if {t : TT} {a u : TS} {D : Ends} {σ : L2.St} {H : Hp} (P : Hp → Prop) (rest : ∀ H', P H' → u D σ H') (h : (∀ H', P H' → u D σ H') → tIfS t a tNext { D with nx := u D } σ H) : tSeq (tIfS t a tNext) u D σ H := h rest
theorem gname_go {i : Nat} {x : V} {σ : L2.St} {H : Hp} {Q : L2.St → Hp → Prop} (h : Q (σ.set i (some x)) H) : gName i x σ H Q := h
end UL
set_option Elab.async false
set_option linter.all false
set_option maxRecDepth 100000
set_option maxHeartbeats 4000000
namespace UL
open PySem PySem.Spec PyProof.Rows L2 PySem.SeqAt
/-! ### xs.count(y) of data -/
theorem DpAll.len {K : PySem.W.Frag} {H : Hp} : ∀ {vs : List V} {ds : List PyData}, DpAll K H vs ds → vs.length = ds.length
  | _, _, .nil => rfl
  | _, _, .cons _ q => by rw [List.length_cons, List.length_cons, DpAll.len q]
def rCntD (K : PySem.W.Frag) : V → List V → Hp → VK → Prop := fun x xs H Q => ∃ (p : Addr) (ys : List V) (ds : List PyData) (v : V) (d : PyData), x = .ref p ∧ xs = [v] ∧ SqL K H p ys ∧ DpAll K H ys ds ∧ Dp K H v d ∧ PyData.plainAll ds = true ∧ d.plain = true ∧ d.depth ≤ 40 ∧ Q (.int ((ds.countP fun y => PyData.eqv y d : Nat) : Int)) H
theorem mt_dcount {X : Cx} (hu : X.A.units + 64 < cLine) : MtR X "list.count" (rCntD X.K) := by
  intro pins s σ H x xs v us Q I rx rxs h
  obtain ⟨p, ys, ds, y, d, rfl, rfl, hs, hds, hd, p1, p2, dp, q⟩ := h
  cases rx
  obtain ⟨u, rfl, ru⟩ := rxs.one
  obtain ⟨its, rv, hl, hlen⟩ := I.list hs
  obtain ⟨as, r1⟩ := Dp.readsAll I ds ys its hds rv
  obtain ⟨bs, r2⟩ := Dp.reads I d y u hd ru
  exact count_list_data hl.isList (by simpa using r1) r2 p1 p2 (by omega) ⟨.int _, H, I.tok _, ⟨_, rfl⟩, q⟩
/-! ### orders of rows of whole numbers -/
theorem eqv_int (a b : Int) : PyData.eqv (.int a) (.int b) = decide (a = b) := PySem.W.Datum.eqv a b
theorem eqv_ints (xs ys : List Int) : PyData.eqvAll (xs.map PyData.int) (ys.map PyData.int) = decide (xs = ys) := PySem.W.eqvAll_map xs ys
theorem ordL_lt : ∀ (z : Bool) (xs ys : List Int), (z = decide (xs.length < ys.length)) → ordL .Lt z (xs.map PyData.int) (ys.map PyData.int) = decide (xs < ys)
  | z, [], [], e => by
    subst e
    simp [ordL]
  | z, [], y :: ys, e => by
    subst e
    simp [ordL]
  | z, x :: xs, [], e => by
    subst e
    simp [ordL]
  | z, x :: xs, y :: ys, e => by
    simp only [List.map_cons, ordL, eqv_int]
    by_cases c : x = y
    · rw [if_pos (decide_eq_true c), ordL_lt z xs ys (by rw [e]; simp), decide_eq_decide, List.cons_lt_cons_iff]
      subst c
      simp
    · have hh : decide (x :: xs < y :: ys) = decide (x < y ∨ x = y ∧ xs < ys) := decide_eq_decide.mpr List.cons_lt_cons_iff
      rw [if_neg (by simpa using c), hh]
      simp [ordV, opI, c]
theorem ordL_le : ∀ (z : Bool) (xs ys : List Int), (z = decide (xs.length ≤ ys.length)) → ordL .LtE z (xs.map PyData.int) (ys.map PyData.int) = decide (xs ≤ ys)
  | z, [], [], e => by
    subst e
    simp [ordL]
  | z, [], y :: ys, e => by
    subst e
    simp [ordL]
  | z, x :: xs, [], e => by
    subst e
    simp [ordL]
  | z, x :: xs, y :: ys, e => by
    simp only [List.map_cons, ordL, eqv_int]
    by_cases c : x = y
    · rw [if_pos (decide_eq_true c), ordL_le z xs ys (by rw [e]; simp), decide_eq_decide, List.cons_le_cons_iff]
      subst c
      simp
    · have hh : decide (x :: xs ≤ y :: ys) = decide (x < y ∨ x = y ∧ xs ≤ ys) := decide_eq_decide.mpr List.cons_le_cons_iff
      rw [if_neg (by simpa using c), hh]
      simp [ordV, opI, c]
      try omega
/-- a row put into a row in order, at the first place behind all that are below -/
theorem ins_sorted {α : Type} {r : α → α → Prop} (tot : ∀ a b, r a b ∨ r b a) (tr : ∀ a b c, r a b → r b c → r a c) {l : List α} {x : α} {i : Nat} (h : l.Pairwise r) (lo : ∀ y ∈ l.take i, r y x) (hi : ∀ y, l[i]? = some y → r x y) : (l.take i ++ [x] ++ l.drop i).Pairwise r := by
  have e : l = l.take i ++ l.drop i := (List.take_append_drop i l).symm
  rw [e, List.pairwise_append] at h
  obtain ⟨h1, h2, h3⟩ := h
  have hx : ∀ y ∈ l.drop i, r x y := by
    cases hd : l.drop i with
    | nil => exact fun y hy => by cases hy
    | cons y ys =>
      have h0 : l[i]? = some y := by
        have : (l.drop i)[0]? = some y := by rw [hd]; rfl
        rw [List.getElem?_drop, Nat.add_zero] at this
        exact this
      rw [hd, List.pairwise_cons] at h2
      exact fun z hz => by
        rcases List.mem_cons.mp hz with rfl | hz
        · exact hi _ h0
        · exact tr _ _ _ (hi _ h0) (h2.1 z hz)
  rw [List.append_assoc, List.pairwise_append]
  refine ⟨h1, ?_, fun a ha b hb => ?_⟩
  · rw [List.singleton_append, List.pairwise_cons]
    exact ⟨hx, h2⟩
  · rcases List.mem_append.mp hb with hb | hb
    · rw [List.mem_singleton.mp hb]
      exact lo a ha
    · exact h3 a ha b hb
theorem ins_perm {α : Type} (l : List α) (x : α) (i : Nat) : (l.take i ++ [x] ++ l.drop i).Perm (x :: l) := by
  have h := @List.perm_middle _ x (l.take i) (l.drop i)
  rw [List.take_append_drop] at h
  simpa using h
/-- what a def does that is run with n values, its star empty -/
@[irreducible] def spW (n : Nat) (sp : Sp) : Sp := fun vs H Q E => vs.length = n + 1 ∧ ∀ p, H p = Option.none → sp (vs ++ [V.ref p]) (upd H p (.tup [])) Q E
/-- an if whose one way ends; what comes behind is shown once, and hidden within -/
theorem seq_ifN {t : TT} {a u : TS} {D : Ends} {σ : L2.St} {H : Hp} (P : Hp → Prop) (rest : ∀ H', P H' → u D σ H') (h : ∀ Nx : L2.St → Hp → Prop, (∀ H', P H' → Nx σ H') → tIfS t a tNext { D with nx := Nx } σ H) : tSeq (tIfS t a tNext) u D σ H := h _ rest
section
variable {J : It} {n : Nat} {G : Hp → Prop} {Y : Nat → Hp → V → Hp → Prop} {g : TG} {te : TE} {vs : List Nat} {σ : L2.St} {H1 : Hp} {D : Addr} {Qd : Hp → Prop}
/-- the elements tell R, objects made on the way too; nothing changes but the row itself -/
theorem lc_made (w : Walk J n G Y) (hD : H1 D = none) (R : Nat → V → Hp → Prop)
    (mono : ∀ i v H H', R i v H → (∀ b o, b ≠ D → H b = some o → H' b = some o) → R i v H') (hn : n ≤ 16000000) (hG : ∀ H, L2.Same H1 H → G H)
    (hs : ∀ i x H H', i < n → L2.Same H1 H → (∃ xs, H D = some (.lst xs)) → Y i H x H' → ∀ Z : V → Hp → Prop, (∀ y H4, R i y H4 → L2.Same H H4 → Z y H4) → g x (wipe σ vs) H' fun σ2 H2 => wipe σ2 vs = wipe σ vs ∧ te σ2 H2 Z)
    (hd : ∀ H ys, ys.length = n → (∀ i y, ys[i]? = some y → R i y H) → L2.Same H1 H → H D = some (.lst ys) → Qd H) : LcW J g tYes te vs σ H1 D Qd := by
  refine lc_it w (fun i H => ∃ ys : List V, ys.length = i ∧ (∀ j y, ys[j]? = some y → R j y H) ∧ H D = some (.lst ys) ∧ L2.Same H1 H) ⟨[], rfl, fun j y z => by simp at z, upd_same, same_new hD⟩
    (fun i H _ ⟨_, _, _, _, s⟩ => hG H s) (fun i x H H' hi ⟨ys, l, r, d, s⟩ y => ?_) fun H ⟨ys, l, r, d, s⟩ => hd H ys l r s d
  refine hs i x H H' hi s ⟨_, d⟩ y _ fun y H4 ry s4 => ?_
  have d4 : H4 D = some (.lst ys) := s4 _ _ d
  have mv : ∀ (b : Addr) (o : HO), b ≠ D → H4 b = some o → upd H4 D (.lst (ys ++ [y])) b = some o := fun b o n e => by rw [upd_ne n]; exact e
  refine ⟨ys, d4, line_gt (by omega), ys ++ [y], by rw [List.length_append, l]; rfl, fun j z hz => ?_, upd_same, ?_⟩
  · rw [List.getElem?_append] at hz
    split at hz
    · exact mono j z H4 _ (mono j z H H4 (r j z hz) fun b o _ e => s4 b o e) mv
    · have e : j = i ∧ y = z := by
        have hl : j - ys.length < 1 := by
          have := (List.getElem?_eq_some_iff.mp hz).1
          simpa using this
        have : j - ys.length = 0 := by omega
        rw [this] at hz
        simp at hz
        exact ⟨by omega, hz⟩
      obtain ⟨rfl, rfl⟩ := e
      exact mono _ _ H4 _ ry mv
  · intro b o e
    rw [upd_ne (ne_of_none e hD)]
    exact s4 _ _ (s _ _ e)
end
end UL
set_option Elab.async false
set_option linter.all false
set_option maxRecDepth 100000
set_option maxHeartbeats 4000000
namespace UL
open PySem PySem.Spec PyProof.Rows L2
/-- a while whose turns are counted up to n at most -/
theorem while_up {c : TT} {tb : TS} {D : Ends} {σ : L2.St} {H : Hp} (n : Nat) (Pv : Nat → L2.St → Hp → Prop) (h0 : Pv 0 σ H)
    (hs : ∀ i σ H, i ≤ n → Pv i σ H → ∀ R : Bool → Hp → Prop, (∀ H1, (i < n ∧ tb { D with nx := Pv (i + 1), ct := Pv (i + 1), bk := D.nx } σ H1) → R true H1) → (∀ H1, D.nx σ H1 → R false H1) → c σ H R) : tWhile c tb D σ H := by
  refine ⟨fun m σ H => ∃ i, m = n - i ∧ i ≤ n ∧ Pv i σ H, ⟨n, 0, by simp, Nat.zero_le _, h0⟩, ?_⟩
  rintro m σ H ⟨i, rfl, hi, p⟩
  refine hs i σ H hi p _ (fun H1 q => ?_) fun H1 q => ?_
  · rw [if_pos rfl]
    exact ⟨Pv (i + 1), fun σ' H' p' => ⟨n - (i + 1), by have := q.1; omega, i + 1, rfl, q.1, p'⟩, q.2⟩
  · rw [if_neg Bool.false_ne_true]
    exact q
/-- both ways of a conditional expression hand on what P tells -/
theorem ite_any {c : Bool} {ta tb : TE} {σ : L2.St} {H : Hp} {Q : VK} (P : V → Hp → Prop) (ha : c = true → ∀ Q : VK, (∀ v H', P v H' → Q v H') → ta σ H Q) (hb : c = false → ∀ Q : VK, (∀ v H', P v H' → Q v H') → tb σ H Q) (h : ∀ v H', P v H' → Q v H') :
    if c = true then ta σ H Q else tb σ H Q := by
  cases c with
  | true => rw [if_pos rfl]; exact ha rfl Q h
  | false => rw [if_neg Bool.false_ne_true]; exact hb rfl Q h
theorem sq_past {K : PySem.W.Frag} {a p : Addr} {H H1 H2 : Hp} {xs : List V} (h : SqL K H a xs) (hp : H p = none) (s : L2.Same H H1) (st : Stay p H1 H2) : SqL K H2 a xs := by
  rcases h with (h | ⟨o, h⟩) | h
  · exact .inl (.inl (st _ _ (ne_of_none h hp) (s _ _ h)))
  · exact .inl (.inr ⟨o, st _ _ (ne_of_none h hp) (s _ _ h)⟩)
  · exact .inr h
theorem sq_same {K : PySem.W.Frag} {a : Addr} {H H1 : Hp} {xs : List V} (h : SqL K H a xs) (s : L2.Same H H1) : SqL K H1 a xs := by
  rcases h with (h | ⟨o, h⟩) | h
  · exact .inl (.inl (s _ _ h))
  · exact .inl (.inr ⟨o, s _ _ h⟩)
  · exact .inr h
theorem sq_off {K : PySem.W.Frag} {a D : Addr} {H : Hp} {xs : List V} (h : SqL K H a xs) (hD : H D = none) : ∀ (H2 : Hp) (o : HO), SqL K H2 a xs → SqL K (upd H2 D o) a xs := by
  intro H2 o h2
  have key : a ≠ D → SqL K (upd H2 D o) a xs := fun n => by
    rcases h2 with (h2 | ⟨u, h2⟩) | h2
    · exact .inl (.inl (by rw [upd_ne n]; exact h2))
    · exact .inl (.inr ⟨u, by rw [upd_ne n]; exact h2⟩)
    · exact .inr h2
  rcases h with (h | ⟨u, h⟩) | h
  · exact key (ne_of_none h hD)
  · exact key (ne_of_none h hD)
  · exact .inr h
/-- all of a row of truths -/
theorem all_true {n : Nat} : ((List.replicate n true).all id) = true := by
  rw [List.all_eq_true]
  intro x hx
  rw [List.eq_of_mem_replicate hx]
  rfl
end UL
namespace PySem.W
open PySem.Spec PyProof.Rows
section
variable {prog : Program} {w : World} {A : Around} {E : Value → Shared → Prop} {s : Shared} {K : Frag} {x C L f : Addr} {h₀ : Heap} {m : Str → Option Value} {ox : Obj} {od : Option Obj} {b tb : Value}
/-- x != b where the class has an own == alone -/
theorem ne_K {Q : Value → Shared → Prop} (hu : A.units + 1 < cLine) (F : Fr h₀ L s.heap m) (X₀ : K.In h₀) (I : InstAt s.heap x ox C od) (hb : Looks (model prog w) s.heap (typeOf b) tb) (hn : notFirst K C tb = true)
    (hne : findIn K (.ref C) "__ne__" = some (some (.builtin "object.__ne__"))) (hob : mroIn K C (.type "object") = some true) (hs : findIn K (.ref C) "__eq__" = some (some (.ref f))) (hf : isFn K (.ref f) = true)
    (h : wpAny (model prog w) A.in1 (call (.ref f) [.ref x, b]) (fun v s' => ∃ c, v = .bool c ∧ Q (.bool (!c)) s') E s) : wpAny (model prog w) A (richCompare .NotEq (.ref x) b) Q E s := by
  have X := X₀.keeps F.keep
  have S := PySem.F.cmp_object.ne
  have entry : ∀ {R : Fin → Shared → Prop}, (∀ c s', Q (.bool (!c)) s' → R (.done (.ret (.bool (!c)))) s') → wpAny (model prog w) A.in1 (Builtin.«object.__ne__» ⟨[.ref x, b], []⟩) R E s := fun {R} hR => by
    unfold Builtin.«object.__ne__»
    repeat (first
      | with_reducible refine wpAny_cRoomFor (show A.in1.units < cLine from hu) ?_
      | (refine wpAny_bind (m := callSpecialIfBound? (.ref x) (Str.ofString "__eq__") [b])
          (ifBound_K X I hs hf (wpAny_mono h (fun r s' hr => by
            obtain ⟨c, rfl, hq⟩ := hr
            repeat (first | exact hR _ _ hq | exact wpAny_pure (hR _ _ hq) | (refine wpAny_bind (m := truthy (.bool _)) (wpAny_truthy_bool ?_)) | wp_step)) fun _ _ e => e)))
      | wp_step)
  have one : wpAny (model prog w) A (tryCompare (.ref x) (cmpInfo .NotEq).2.1 b) (fun r s' => ∃ v, r = some v ∧ Q v s') E s := by
    unfold tryCompare
    refine wpAny_bind (m := callSpecialIfBound? (.ref x) (cmpInfo .NotEq).2.1 [b]) ?_
    simp only [callSpecialIfBound?, bindSpecialIfBound?]
    refine wpAny_holding (wpAny_bind (wpAny_bind (wpAny_bind (I.type.here ((looks_findIn X (show findIn K (.ref C) (cmpInfo .NotEq).2.1 = _ from hne)).here ?_)))))
    simp only [S.bind]
    refine wpAny_bind (wpAny_askSetting (wpAny_ite ?_))
    have sub : Looks (model prog w) s.heap (isInstance (.ref x) (.type "object")) true := I.type.andThen (looks_mroIn X hob)
    have fin : wpAny (model prog w) A (call (.builtin "object.__ne__") ([.ref x] ++ [b]) >>= fun v => pure (some v)) (fun r s' => wpAny (model prog w) A (match r with | some .notImplemented | none => pure none | some r => pure (some r)) (fun r s' => ∃ v, r = some v ∧ Q v s') E s') E s := by
      refine wpAny_bind (wpAny_call (codeAny_call_builtin S.plain PySem.F.cmpEntry_ne (check_slot PySem.F.cmpKind_ne PySem.F.cmpSplit_ne sub (PySem.F.cmpArgs_ne _ _) (entry fun c s' q => ?_))))
      exact wpAny_pure (wpAny_pure ⟨_, rfl, q⟩)
    split
    · exact wpAny_bind (wpAny_pure (wpAny_pure fin))
    · exact wpAny_tryCatch (wpAny_bind (wpAny_pure (wpAny_pure fin)))
  unfold richCompare
  simp only [oneThing_ref]
  refine wpAny_holding (wpAny_bind (wpAny_cRoomFor (Nat.lt_of_succ_lt hu) ?_))
  refine wpAny_bind (I.type.here (wpAny_bind (hb.here ?_)))
  split
  · rename_i q
    have e : subIn K tb (.ref C) = some false := by
      rcases Bool.or_eq_true_iff.mp hn with e | e
      · rw [beq_iff_eq.mp e] at q; simp at q
      · exact beq_iff_eq.mp e
    refine wpAny_bind ((looks_subIn X e).here ?_)
    simp only [Bool.false_eq_true, if_false]
    refine wpAny_bind (wpAny_mono one (fun r s' z => ?_) fun _ _ e => e)
    obtain ⟨v, rfl, hq⟩ := z
    exact wpAny_pure hq
  · refine wpAny_bind (wpAny_pure ?_)
    simp only [Bool.false_eq_true, if_false]
    refine wpAny_bind (wpAny_mono one (fun r s' z => ?_) fun _ _ e => e)
    obtain ⟨v, rfl, hq⟩ := z
    exact wpAny_pure hq
end
end PySem.W
namespace UL
open PySem PySem.Spec PyProof.Rows L2
section
variable {X : Cx} {CX : CXT} {C g : Addr} {n : Nat} {sp : Sp} {E : XK}
/-- x != y by the class's own == -/
def rNeI (K : PySem.W.Frag) (C : Addr) (sp : Sp) (E : XK) : R2 := fun x y H Q => ∃ (a dx : Addr) (fs : List (Str × V)) (t : Value), x = .ref a ∧ H a = some (.ins C dx fs) ∧ TyX K H y t ∧ PySem.W.notFirst K C t = true ∧ sp [x, y] H (fun z H' => ∃ c, z = .bl c ∧ Q (.bl (!c)) H') E
theorem op_neI (hne : PySem.W.findIn X.K (.ref C) "__ne__" = some (some (.builtin "object.__ne__"))) (ci : CIsi X.K C) (hs : PySem.W.findIn X.K (.ref C) "__eq__" = some (some (.ref g))) (hf : PySem.W.isFn X.K (.ref g) = true) (F : FnR X.prog X.w X.K X.mg X.base CX n g sp) (hr : Room (n + 1) X.A) (hx : Passes CX X E) :
    OpR X (compareOp .NotEq) (rNeI X.K C sp E) := by
  intro pins s σ H x y v u Q I rx ry h
  obtain ⟨a, dx, fs, t, rfl, ha, ty, hn, q⟩ := h
  cases (show v = Value.ref a from rx)
  obtain ⟨mA, O, _⟩ := ins_get I.hok ha
  obtain ⟨od, J, _⟩ := O.look
  obtain ⟨m, hF⟩ := I.fr
  obtain ⟨Pk, Z, pk, _⟩ := kit_of I ry ty
  show wpAny _ _ (richCompare .NotEq (.ref a) u) _ _ _
  refine PySem.W.ne_K (show X.A.units + 1 < cLine from hr.in1.units0) hF I.ok.mod.kin J (Z.ty _ _ I.kIn pk) hn hne ci.cm hs hf ?_
  refine wpAny_mono (wpAny_call (SlX.run_at (us := [.ref a, u]) (ws := [.ref a, y]) F hr.in1 I.env0.in1 hx I (.cons rfl (.cons ry .nil)) q)) (fun r s' z => ?_) fun _ _ e => e
  obtain ⟨z', H', I', rz, c, ez, qz⟩ := z
  subst ez
  cases (show r = Value.bool c from rz)
  exact ⟨c, rfl, .bl (!c), H', I', rfl, qz⟩
variable {k j : Nat}
theorem op_neS (c : CalS X.prog X.w X.K X.mg X.base k C "__eq__" sp) (hne : PySem.W.findIn X.K (.ref C) "__ne__" = some (some (.builtin "object.__ne__"))) (ci : CIsi X.K C) (hr : Room j X.A) (hk : k + 1 ≤ j) : OpR X (compareOp .NotEq) (rNeI X.K C sp E0) := by
  obtain ⟨f, F, h1, h2⟩ := c
  exact op_neI hne ci h1 h2 F (hr.mono hk) pass0
end
end UL
set_option Elab.async false
set_option linter.all false
set_option maxRecDepth 100000
set_option maxHeartbeats 4000000
/-! ### own exceptions over any built-in base, their __init__ walked as a def -/
namespace UL
open PySem PySem.Spec PyProof.Rows L2
open PySem.Builtin PySem.Builtin.ObjectAttr
/-- what the written part says of such a class -/
structure ExB (K : PySem.W.Frag) (C : Addr) (B newId initId : String) (bmB : List Value) : Prop where
  fb : ExcBaseFacts B newId initId bmB
  sf : StoreFacts B bmB "object.__setattr__" "object"
  cls : ∃ nm q N bs bm sn sub ab col dd k0 k1 k2 k3 k5, K.lookup C = some (excClassObj nm q C N bs bm true sn sub ab col dd k0 k1 k2 k3 k5 newId) ∧ PySem.W.excTail bmB bm = true
  sa : PySem.W.findIn K (.ref C) "__setattr__" = some (some (.builtin "object.__setattr__"))
  exC : PySem.W.subIn K (.ref C) (.type "BaseException") = some true
  tyC : PySem.W.typeIn K (.ref C) = some (.type "type")
  kC : PySem.W.keepIn K (.ref C) = true
section
variable {K : PySem.W.Frag} {C : Addr} {B newId initId : String} {bmB : List Value}
theorem ExB.has (T : ExB K C B newId initId bmB) : ∃ cd, PySem.W.clsIn K C = some cd ∧ cd.hasDict = true ∧ PySem.W.excOver K C bmB = true := by
  obtain ⟨nm, q, N, bs, bm, sn, sub, ab, col, dd, k0, k1, k2, k3, k5, hC, ht⟩ := T.cls
  have e : PySem.W.clsIn K C = some { name := nm, bases := bs, mro := .ref C :: bm, ns := N, qualname := q, hasDict := true, slotNames := sn, subclasses := sub, abstract := ab, collection := col, hasDel := false } := by
    unfold PySem.W.clsIn
    rw [hC] <;> rfl
  refine ⟨_, e, rfl, ?_⟩
  unfold PySem.W.excOver
  rw [e]
  simp [ht]
theorem taker_none {f : Str} (h : PySem.W.findIn K (.ref C) f = some none) : PySem.W.takerIn K C f = some none := by
  unfold PySem.W.takerIn
  rw [h]
  rfl
end
section
variable {X : Cx} {pins : List (Addr × Obj)} {σ : L2.St} {H : Hp} {s : Shared} {a C dx : Addr} {f : Str} {y : V} {u : Value} {fs : List (Str × V)} {Q : Unit → Shared → Prop} {E : Value → Shared → Prop} {A : Around} {B newId initId : String} {bmB : List Value}
/-- self.f = y on one that has no dict yet -/
theorem exs_new (T : ExB X.K C B newId initId bmB) (I : Inv X pins σ H s) (e : H a = some (exo a C none)) (hno : PySem.W.findIn X.K (.ref C) f = some none) (ry : RelV y u)
    (h : ∀ dx s', H dx = none → dx ≠ a → Inv X pins σ (upd (upd H dx (exd dx [(f, y)])) a (exo a C (some dx))) s' → Q () s') : wpAny (model X.prog X.w) A (setAttr (.ref a) f u) Q E s := by
  obtain ⟨cd, hcd, hdict, hover⟩ := T.has
  obtain ⟨t1, ho⟩ := exo_at I.hok e
  obtain ⟨hp, g, d, t, os⟩ := s
  have J : PySem.W.InstAt hp a { cls := .ref C, dict := none, data := .fields #[.ref t1, .none, .none, .none, .bool false, .none] } C none := ⟨ho, rfl, rfl, trivial⟩
  refine PySem.W.set_plain I.kIn J T.sa (PySem.W.osa_openX T.sf I.kIn J hover (taker_none hno) fun b => ?_)
  have hcl : PySem.W.Looks (model X.prog X.w) hp (classData C) cd := PySem.W.looks_clsIn I.kIn hcd
  have nx : a ≠ hp.objs.size := Nat.ne_of_lt (Heap.lt_size ho)
  show wpAny _ _ (storeInOwnDict (.ref a) (.ref C) _ f u b) _ _ _
  obtain ⟨nm, bs, mro, ns, qn, hd, sn, sb, ab, col, del⟩ := cd
  dsimp only at hdict
  subst hdict
  unfold storeInOwnDict ownDictForStores
  repeat (first
    | with_reducible refine PySem.HandSPX.store_in_new ?_ ?_
    | with_reducible refine wpAny_loadPart_at ho ?_
    | with_reducible refine hcl.at ?_
    | wp_step)
  · refine ⟨_, #[], _, (Heap.get?_update_ne _ _ _ _ nx.symm).trans (Heap.get?_push_at rfl rfl), rfl, ?_, fun _ => rfl⟩
    intro z hz
    exact absurd hz (by simp)
  · intro h' tk' hn hs
    have new : (hp.push { cls := .type "dict", data := .dict #[] }).get? a = some { cls := .ref C, data := .fields #[.ref t1, .none, .none, .none, .bool false, .none] } := Heap.get?_push_of_some _ ho
    have k : ∀ b o, b ≠ a → hp.get? b = some o → h'.get? b = some o := fun b o hb q =>
      (hs.2 b (Nat.ne_of_lt (Heap.lt_size q))).trans ((Heap.get?_update_ne _ _ _ _ hb).trans (Heap.get?_push_of_some _ q))
    have hx : h'.get? a = some { cls := .ref C, dict := some hp.objs.size, data := .fields #[.ref t1, .none, .none, .none, .bool false, .none] } := (hs.2 a nx).trans (Heap.get?_update_self _ new rfl)
    have hnd : H hp.objs.size = none := I.hok.fresh (Nat.le_refl _)
    have old : ∀ {b : Addr} {o : Obj}, hp.get? b = some o → b ≠ hp.objs.size := fun q => Nat.ne_of_lt (Heap.lt_size q)
    have off : ∀ {b : Addr}, H b = none → b ≠ a := fun n z => by
      rw [z, e] at n
      cases n
    have U : Un X.fs [] H (upd (upd H hp.objs.size (exd hp.objs.size [(f, y)])) a (exo a C (some hp.objs.size))) hp h' := by
      constructor
      case keep => exact fun b o q n _ _ => k b o (off n) q
      case slot => exact fun b o q n _ _ => ⟨o.slots, k b o (off n) q⟩
      case free => exact fun b o q n _ => by rw [upd_ne (off n), upd_ne (old q)]; exact n
      case there =>
        intro b o q _
        by_cases hb : b = a
        · exact ⟨_, by rw [hb]; exact hx⟩
        · exact ⟨o, k b o hb q⟩
      case tups => exact fun b xs q => by rw [upd_ne (at_ne e q exo_tup), upd_ne (ne_of_none q hnd)]; exact q
      case frzs => exact fun b o v q => by rw [upd_ne (at_ne e q exo_frz), upd_ne (ne_of_none q hnd)]; exact q
      case tbls =>
        intro b ps q
        refine ⟨#[], ?_⟩
        rw [upd_ne (at_ne e q exo_tbl), upd_ne (ne_of_none q hnd), q]
        simp
    have J2 := I.un (t' := tk') U fun b o q => by
      by_cases hb : b = a
      · subst hb
        rw [upd_same] at q
        cases q
        exact exo_ok hx
      rw [upd_ne hb] at q
      by_cases hd : b = hp.objs.size
      · subst hd
        rw [upd_same] at q
        cases q
        exact exd_ok hn (relO_put (fs := []) ry fun g => True.intro)
      rw [upd_ne hd] at q
      refine (I.hok b o q).stay (fun c v hc z => k c v ?_ z) (fun c hc => ?_) (fun c xs hc => ?_)
      · rcases hc with rfl | hc
        · exact hb
        · exact at_ne e hc exo_own
      · rw [upd_ne (at_ne e hc exo_own), upd_ne (ne_of_none hc hnd)]
        exact hc
      · rw [upd_ne (at_ne e hc exo_tup), upd_ne (ne_of_none hc hnd)]
        exact hc
    exact h hp.objs.size _ hnd nx.symm J2
/-- self.f = y on one that has its dict -/
theorem exs_old (T : ExB X.K C B newId initId bmB) (I : Inv X pins σ H s) (e : H a = some (exo a C (some dx))) (ed : H dx = some (exd dx fs)) (hl : fs.length ≤ 900) (hno : PySem.W.findIn X.K (.ref C) f = some none) (ry : RelV y u)
    (h : ∀ s', Inv X pins σ (upd H dx (exd dx ((f, y) :: fs))) s' → Q () s') : wpAny (model X.prog X.w) A (setAttr (.ref a) f u) Q E s := by
  obtain ⟨cd, hcd, hdict, hover⟩ := T.has
  obtain ⟨t1, ho⟩ := exo_at I.hok e
  obtain ⟨mA, hns, rel⟩ := exd_at I.hok ed
  have hw := within_of rel
  obtain ⟨hp, g, d, t, os⟩ := s
  obtain ⟨oD, _, _, hoD, _, _⟩ := hns.count hw
  have J : PySem.W.InstAt hp a { cls := .ref C, dict := some dx, data := .fields #[.ref t1, .none, .none, .none, .bool false, .none] } C (some oD) := ⟨ho, rfl, rfl, hoD⟩
  refine PySem.W.set_plain I.kIn J T.sa (PySem.W.osa_openX T.sf I.kIn J hover (taker_none hno) fun b => ?_)
  have hcl : PySem.W.Looks (model X.prog X.w) hp (classData C) cd := PySem.W.looks_clsIn I.kIn hcd
  show wpAny _ _ (storeInOwnDict (.ref a) (.ref C) _ f u b) _ _ _
  obtain ⟨nm, bs, mro, ns, qn, hd, sn, sb, ab, col, del⟩ := cd
  dsimp only at hdict
  subst hdict
  unfold storeInOwnDict ownDictForStores
  repeat (first
    | with_reducible refine PySem.OEX.store_in_old hns hw (by rw [List.length_map]; omega) ?_
    | with_reducible refine wpAny_loadPart_at ho ?_
    | with_reducible refine hcl.at ?_
    | wp_step)
  intro h' tk' hn hs
  have k : ∀ b o, b ≠ dx → hp.get? b = some o → h'.get? b = some o := fun b o hb q => (hs.2 b hb).trans q
  have there : ∃ o, h'.get? dx = some o := by
    obtain ⟨o, _, _, e', _⟩ := hn
    exact ⟨o, e'⟩
  exact h _ (I.write (t' := tk') (x := dx) (e := dx) (o := exd dx ((f, y) :: fs)) (by rw [ed]; exact True.intro) (.inl rfl) k there (exd_ok hn (relO_put ry rel)))
end
/-- self.f = e, self an exception of the class at C -/
def tExs (C : Addr) (f : Str) (to te : TE) : TS := fun D σ H => te σ H fun y H1 => to σ H1 fun x H2 => ∃ a : Addr, x = .ref a ∧
  ((H2 a = some (exo a C none) ∧ ∀ dx, H2 dx = none → dx ≠ a → D.nx σ (upd (upd H2 dx (exd dx [(f, y)])) a (exo a C (some dx)))) ∨
    ∃ (dx : Addr) (fs : List (Str × V)), H2 a = some (exo a C (some dx)) ∧ H2 dx = some (exd dx fs) ∧ fs.length ≤ 900 ∧ D.nx σ (upd H2 dx (exd dx ((f, y) :: fs))))
section
variable {X : Cx} {C : Addr} {B newId initId : String} {bmB : List Value} {o e : Expr} {es : List Expr} {to te : TE} {ta : TA} {f : Str} {p p' pos : Pos}
theorem ps_exs (T : ExB X.K C B newId initId bmB) (hno : PySem.W.findIn X.K (.ref C) f = some none) (he : PE X e te) (ho : PE X o to) (hs : swapsWith e (some (.Attribute o f p')) pos.line X.env = pure false := by rfl) : PS X (.Assign [.Attribute o f p'] e pos) (tExs C f to te) := by
  refine ⟨fun pins s σ H D I h => plainObj_wpAny_Assign_Attribute (thn (he.run pins s σ H _ I h) fun v s1 ⟨y, H1, I1, r1, q1⟩ => thn (ho.run pins s1 σ H1 _ I1 q1) fun u s2 ⟨x, H2, I2, r2, a, ex, q⟩ => ?_) hs⟩
  subst ex
  cases (show u = Value.ref a from r2)
  rcases q with ⟨ea, q⟩ | ⟨dx, fs, ea, ed, hl, q⟩
  · exact exs_new T I2 ea hno r1 fun dx s' n ne J => ⟨σ, _, J, q dx n ne⟩
  · exact exs_old T I2 ea ed hl hno r1 fun s' J => ⟨σ, _, J, q⟩
/-- what an __init__ does that keeps its values in these fields -/
def spExI (C : Addr) (fs : List Str) : Sp := fun vs H Q _ => ∃ (a : Addr) (ws : List V), vs = .ref a :: ws ∧ ws.length = fs.length ∧ H a = some (exo a C none) ∧
  ∀ (d : Addr) (H' : Hp), H d = none → d ≠ a → (H' = fun b => if b = a then some (exo a C (some d)) else if b = d then some (exd d (fs.zip ws).reverse) else H b) → Q .non H'
/-- C(e, ..): the error's class, its own new dict -/
def tMkE (C : Addr) (fs : List Str) (ta : TA) : L2.St → Hp → XK → Prop := fun σ H Q => ta σ H fun ws H1 => ws.length = fs.length ∧ ∀ d, H1 d = none → Q (.ref C) (some d) (upd H1 d (.xd (fs.zip ws).reverse))
theorem pmk_exB {x : Str} {fI : Addr} {k j : Nat} {fd : FuncData} {ps : List Str} {fs : List Str} (T : ExB X.K C B newId initId bmB) (iC : PySem.W.findIn X.K (.ref C) "__init__" = some (some (.ref fI))) (tI : PySem.W.typeIn X.K (.ref fI) = some (.type "function"))
    (F1 : FnOk X.prog X.w X.K X.mg X.base CX0 k fI fd ps (spExI C fs)) (hr : Room j X.A) (hk : k + 1 ≤ j) (hb : Binds X.K fd ps []) (hf : fs.length ≤ 1000) (hg : Gl X x) (hm : X.mg x = some (.ref C)) (ha : PA X (e :: es) ta)
    (hdb : (x == ("__debug__" : Str)) = false := by decide) (he : starEach (e :: es) X.env = (false, eval e X.env) :: starEach es X.env := by rfl) (hpl : (backTo pos (starEach es X.env)).any (·.1) = false := by rfl) :
    PMk X (.Call (.Name x p) (e :: es) [] pos) (tMkE C fs ta) := by
  intro pins s σ H Q I h
  obtain ⟨nm, q, N, bs, bm, sn, sub, ab, col, dd, k0, k1, k2, k3, k5, hC, ht⟩ := T.cls
  refine wpAny_Call_Name_kw (ld_glob I hg hm ?_ hdb)
  refine PySem.W.callWith_K (h₀ := X.base) I.ok.mod.kin T.kC (thn (ha.run pos pins s σ H _ I h) fun us s1 ⟨ws, H1, I1, r1, hz, q1⟩ => ⟨I1.kIn, ?_⟩) he hpl
  show wpAny _ _ (call (.ref C) us) _ _ _
  obtain ⟨hp, g, dr, tk, os⟩ := s1
  have hn : H1 (hp.objs.size + 1) = none := I1.hok.fresh (Nat.le_succ _)
  have keep : ∀ b o, hp.get? b = some o → ((hp.push (PySem.W.kdv_tup us)).push (PySem.HandSPX.excO C hp.objs.size)).get? b = some o := fun b o z => Heap.get?_push_of_some _ (Heap.get?_push_of_some _ z)
  have made : ((hp.push (PySem.W.kdv_tup us)).push (PySem.HandSPX.excO C hp.objs.size)).get? (hp.objs.size + 1) = some (PySem.HandSPX.excO C hp.objs.size) := by heap_get
  have I2 := I1.laid (t' := tk) (a := hp.objs.size + 1) (o := exo (hp.objs.size + 1) C none) (h' := (hp.push (PySem.W.kdv_tup us)).push (PySem.HandSPX.excO C hp.objs.size)) keep (Nat.le_succ _) (exo_ok made)
  have r2 : Vals (V.ref (hp.objs.size + 1) :: ws) (Value.ref (hp.objs.size + 1) :: us) := .cons rfl r1
  have body : spExI C fs (V.ref (hp.objs.size + 1) :: ws) (upd H1 (hp.objs.size + 1) (exo (hp.objs.size + 1) C none))
      (fun v H2 => v = .non ∧ ∃ (d : Addr) (gs : List (Str × V)), H2 (hp.objs.size + 1) = some (exo (hp.objs.size + 1) C (some d)) ∧ H2 d = some (exd d gs) ∧ H1 d = none ∧ Q (.ref C) (some d) (upd (del H2 (hp.objs.size + 1)) d (.xd gs))) (fun _ _ _ => False) := by
    refine ⟨_, ws, rfl, hz, upd_same, fun d H' hd hne hH => ⟨rfl, d, (fs.zip ws).reverse, ?_, ?_, ?_, ?_⟩⟩
    · rw [hH]
      exact if_pos rfl
    · rw [hH]
      show (if d = _ then _ else if d = d then _ else _) = _
      rw [if_neg hne, if_pos rfl]
    · rw [upd_ne hne] at hd
      exact hd
    · have hd1 : H1 d = none := by
        rw [upd_ne hne] at hd
        exact hd
      have eH : upd (del H' (hp.objs.size + 1)) d (.xd (fs.zip ws).reverse) = upd H1 d (.xd (fs.zip ws).reverse) := by
        funext b
        by_cases c1 : b = d
        · rw [c1, upd_same, upd_same]
        rw [upd_ne c1, upd_ne c1]
        by_cases c2 : b = hp.objs.size + 1
        · rw [c2, del_same, hn]
        rw [del_ne c2, hH]
        show (if b = _ then _ else if b = d then _ else _) = _
        rw [if_neg c2, if_neg c1, upd_ne c2]
      rw [eH]
      exact q1 d hd1
  have hl : (Value.ref (hp.objs.size + 1) :: us).length = ps.length := r2.length.symm.trans (F1.len _ _ _ _ body)
  have b := hb ⟨(hp.push (PySem.W.kdv_tup us)).push (PySem.HandSPX.excO C hp.objs.size), g, dr, tk, os⟩ (Value.ref (hp.objs.size + 1) :: us) I2.kIn (by rw [List.append_nil]; exact hl)
  rw [List.append_nil] at b
  have hus : us.length ≤ sizeLine := line_ge (by rw [← r1.length, hz]; omega)
  refine wpAny_call (PySem.HandSPX.call_own T.fb (fun Y => PySem.W.excTail_contains Y bm ht) (I1.kIn _ _ hC) (PySem.W.looks_findIn I1.kIn iC) (fun self => PySem.W.bind_fn I1.kIn self tI) hus
    (codeAny_mono (F1.run _ X.stack _ _ ⟨Value.ref (hp.objs.size + 1) :: us, []⟩ (Value.ref (hp.objs.size + 1) :: us) _ _ (fun _ _ _ => False) ((hr.mono hk).make C us []) (I2.env0.make C us []) b r2 body) fun r s' hq => ?_))
  rcases r with er | fl
  · exact pass0 pins σ _ _ er s' I2 hq
  cases fl with
  | next => exact hq.elim
  | brk => exact hq.elim
  | cont => exact hq.elim
  | ret u =>
    obtain ⟨v, H2, os2, bare2, un2, hok2, rv, ev, d, gs, ea, ed, hd1, q2⟩ := hq
    subst ev
    obtain ⟨h2, g2, d2, t2, os'⟩ := s'
    exact ⟨rv, mk_end (raises_own T.exC T.tyC) I1 (Nat.le_succ _) keep un2 hok2 os2 bare2 ea ed hd1 q2⟩
end
end UL
set_option Elab.async false
set_option linter.all false
set_option maxRecDepth 100000
set_option maxHeartbeats 4000000
/-! ### try with several clauses «except C as n» -/
namespace UL
open PySem PySem.Spec PyProof.Rows L2
/-- behind a suite its name is gone -/
def endsOff (D : Ends) (i : Nat) : Ends := { nx := fun σ' H' => D.nx (σ'.set i none) H', rt := D.rt, bk := fun σ' H' => D.bk (σ'.set i none) H', ct := fun σ' H' => D.ct (σ'.set i none) H' }
/-- what the clauses wish of an exception: class, slot, suite -/
def wAsN (K : PySem.W.Frag) (Wout : WX) (D : Ends) : List (Value × Nat × (Addr → Value → Option Addr → TS)) → WX
  | [] => Wout
  | (c, i, ts) :: r => fun cls d σ H => ∃ b, PySem.W.exmOne K cls c = some b ∧ (b = true → ∀ a, H a = none → ts a cls d (endsOff D i) (σ.set i (some (.ref a))) H) ∧ (b = false → wAsN K Wout D r cls d σ H)
inductive Clauses (X : Cx) : List ExceptHandler → List (Value × Nat × (Addr → Value → Option Addr → TS)) → Prop
  | nil : Clauses X [] []
  | cons {x n : Str} {i : Nat} {c : Value} {ts : Addr → Value → Option Addr → TS} {b₀ : Stmt} {suite : List Stmt} {np ps : Pos} {hds : List ExceptHandler} {l : List (Value × Nat × (Addr → Value → Option Addr → TS))} (hi : X.N[i]? = some n) (hl : X.env.kindOf n = some .local) (hc : Names X x c)
      (go : ∀ (a : Addr) (oe : Obj) (cls : Value) (d : Option Addr) (pn : List (Addr × Obj)), Zc cls d oe → (∃ vs, oe.data = .fields vs) → PSs (X.suite a ((a, oe) :: pn)) (b₀ :: suite) (ts a cls d)) (more : Clauses X hds l) :
      Clauses X (.ExceptHandler (some (.Name x np)) (some n) (b₀ :: suite) ps :: hds) ((c, i, ts) :: l)
section
variable {X : Cx} {body : List Stmt} {h₀ : ExceptHandler} {hds : List ExceptHandler} {l : List (Value × Nat × (Addr → Value → Option Addr → TS))} {pos : Pos} {tb : WX → TS} {Wout : WX}
theorem ps_tries (hs : X.stack = X.env :: X.outer) (hf : X.env.frame = some X.env.locals) (hN : X.N.Nodup) (tk : Takes X Wout)
    (hb : ∀ (W : WX) (pn : List (Addr × Obj)) (xe : Value → Shared → Prop), Takes (X.tr pn xe) W → PassesOwn (model X.prog X.w) X.A X.env xe → PSs (X.tr pn xe) body (tb W))
    (hh : Clauses X (h₀ :: hds) l) : PS X (.Try body (h₀ :: hds) [] [] pos) (fun D σ H => tb (wAsN X.K Wout D l) D σ H) := by
  refine ⟨fun pins s σ H D I h => ?_⟩
  have ok := I.ok
  have hfr : X.A.frames = some (X.env :: X.outer) := by rw [ok.frames, hs]
  let look : Value → Shared → Prop := fun e s₁ => wpAny (model X.prog X.w) X.A (noteFrame e X.env) (fun _ s₂ => wpAny (model X.prog X.w) X.A (setFlight e none) (fun _ s₃ => wpAny (model X.prog X.w) X.A (handleBy e X.env (h₀ :: hds)) (SP X pins D) X.xe s₃) X.xe s₂) X.xe s₁
  refine wpAny_Try_except (wpAny_mono ((hb (wAsN X.K Wout D l) (X.pn ++ pins) look (fun u s' xx => ?_) PassesOwn.looking).run [] s σ H D (I.toTry _) h) (fun f s1 hsp => ?_) fun e s1 he => he)
  · obtain ⟨a, B, sI, pins', σ', H', cls, d, rfl, J', nb, up, sky, na, os, ag, w⟩ := xx
    have J : Inv X pins σ' H' sI := J'.ofTry ok
    have sky2 : Sky B (X.env :: X.outer) a (Zc cls d) X.env.locals s'.heap := by rw [← hs]; exact sky
    show wpAny (model X.prog X.w) X.A (noteFrame (.ref a) X.env) _ _ _
    refine Sky.land Zc.steady hfr hf sky2 fun h3 fl3 up3 => ?_
    have J3 : Inv X pins σ' H' { s' with heap := h3 } := J.landed nb fl3.1 (up.trans up3) os ag
    obtain ⟨oe3, vs3, he3, hz3, hd3⟩ := fl3.there
    have nfr : a ∉ frs (X.env :: X.outer) := fun hm => by
      obtain ⟨_, o', e', bad⟩ := fl3.2.2.1.mem hm
      cases he3.symm.trans e'
      exact bad _ hd3
    have nL : a ≠ X.env.locals := fun z => nfr (List.mem_filterMap.mpr ⟨X.env, List.mem_cons_self, by rw [hf, z]⟩)
    have nF : a ∉ X.fs := fun hm => by
      obtain ⟨en, hen, q⟩ := List.mem_filterMap.mp hm
      exact nfr (List.mem_filterMap.mpr ⟨en, List.mem_cons_of_mem _ hen, q⟩)
    have S3 := J3.suite he3 hd3 na nL nF
    have LT : PySem.W.Looks (model X.prog X.w) h3 (typeOf (.ref a)) cls := fun A Q E s k q => wpAny_typeOf_ref (k _ _ he3) (by rw [hz3.1]; exact q)
    have turn : ∀ {hds' : List ExceptHandler} {l' : List (Value × Nat × (Addr → Value → Option Addr → TS))}, Clauses X hds' l' → wAsN X.K Wout D l' cls d σ' H' → wpAny (model X.prog X.w) X.A (handleBy (.ref a) X.env hds') (SP X pins D) X.xe { s' with heap := h3 } := by
      intro hds' l' hk
      induction hk with
      | nil =>
        intro w
        refine wpAny_handleBy_nil ?_
        obtain ⟨_, _, _, oe, vs, T, oT, ts', he, hz, hd, h1, hr⟩ := id fl3
        unfold PySem.passOn
        refine wpAny_bind (wpAny_field he hd h1 ?_)
        rw [if_neg (show ¬ ((Value.ref T == Value.none) = true) by simp)]
        have out : wpAny (model X.prog X.w) X.A (setFlight (.ref a) X.env.frame) (fun _ s4 => wpAny (model X.prog X.w) X.A (throw (.ref a) : Sem Flow) (SP X pins D) X.xe s4) X.xe { s' with heap := h3 } := by
          rw [hf]
          refine HandSPX.setFlight_upZ fl3 fun h4 hh4 up4 => wpAny_throw (tk _ _ ⟨a, B, sI, pins, σ', H', cls, d, rfl, J, nb, (up.trans up3).trans up4, .inr (.inr ?_), na, os, ag, w⟩)
          rw [hs]
          exact hh4
        first | exact wpAny_bind (wpAny_pure (wpAny_bind out)) | exact wpAny_bind out
      | @cons x n i c ts b₀ suite np ps hds2 l2 hi hl hc go more ih =>
        intro w
        obtain ⟨b, hb1, yes, no⟩ := w
        refine wpAny_handleBy_cons (codeAny_handlers_test ?_) (by intro q; cases q)
        have asks : ∀ {Q : Value → Shared → Prop} {E : Value → Shared → Prop}, Q c { s' with heap := h3 } → wpAny (model X.prog X.w) (X.A.mark (some (.ref a))) (eval (.Name x np) X.env) Q E { s' with heap := h3 } := fun {Q E} q => by
          obtain ⟨hg, hdb, hm | ⟨hm, hv, hn⟩⟩ := hc
          · exact ld_glob (X := X.suite a ((a, oe3) :: (X.pn ++ pins))) S3 hg hm q hdb
          · exact ld_blt (X := X.suite a ((a, oe3) :: (X.pn ++ pins))) S3 hg hm hv q hn hdb
        refine asks ((PySem.W.exm_one (M := model X.prog X.w) J3.kIn LT hb1).here ?_)
        cases b with
        | false => exact ih (no rfl)
        | true =>
          refine codeAny_handlers_suite_as (HandSPX.lands_againZ fl3 fun h4 fl4 up4 => ?_)
          have J4 : Inv X pins σ' H' { s' with heap := h4 } := J.landed nb fl4.1 ((up.trans up3).trans up4) os ag
          obtain ⟨oe4, vs4, he4, hz4, hd4⟩ := fl4.there
          refine store_ok (X := X.suite a ((a, oe4) :: (X.pn ++ pins))) (v := .ref a) (J4.suite he4 hd4 na nL nF) hN hi (.inl hl) rfl (fun s5 S5 => ?_) (.inr hl)
          refine wpAny_mono ((go a oe4 cls d (X.pn ++ pins) hz4 ⟨_, hd4⟩).run [] s5 _ H' _ S5 (yes rfl a na)) (fun f s6 hsp => ?_) fun _ _ z => False.elim z
          have gone : ∀ {σ6 : L2.St} {H6 : Hp} {Q : Shared → Prop}, Inv (X.suite a ((a, oe4) :: (X.pn ++ pins))) [] σ6 H6 s6 → (∀ s7, Inv X pins (σ6.set i none) H6 s7 → Q s7) →
              wpAny (model X.prog X.w) X.A (do bindName X.env n .none; unbindBehindTheSuite X.env n ps) (fun _ s7 => Q s7) X.xe s6 := fun {σ6 H6 Q} S6 hq => gone_ok (S6.unsuite ok) hN hi hl hq
          cases f with
          | next =>
            obtain ⟨_, _, S6, q6⟩ := hsp
            exact gone S6 fun s7 J7 => ⟨_, _, J7, q6⟩
          | brk =>
            obtain ⟨_, _, S6, q6⟩ := hsp
            exact gone S6 fun s7 J7 => ⟨_, _, J7, q6⟩
          | cont =>
            obtain ⟨_, _, S6, q6⟩ := hsp
            exact gone S6 fun s7 J7 => ⟨_, _, J7, q6⟩
          | ret u =>
            obtain ⟨_, _, _, S6, r6, q6⟩ := hsp
            exact gone S6 fun s7 J7 => ⟨_, _, _, J7, r6, q6⟩
    exact turn hh w
  · cases f with
    | ret u =>
      obtain ⟨v, _, _, J', r, q⟩ := hsp
      exact ⟨v, _, _, J'.ofTry ok, r, q⟩
    | next =>
      obtain ⟨_, _, J', q⟩ := hsp
      exact wpAny_execs_nil ⟨_, _, J'.ofTry ok, q⟩
    | brk =>
      obtain ⟨_, _, J', q⟩ := hsp
      exact ⟨_, _, J'.ofTry ok, q⟩
    | cont =>
      obtain ⟨_, _, J', q⟩ := hsp
      exact ⟨_, _, J'.ofTry ok, q⟩
end
end UL
set_option Elab.async false
set_option linter.all false
set_option maxRecDepth 100000
set_option maxHeartbeats 4000000
/-! ### what a caller knows of a def that may raise -/
namespace UL
open PySem PySem.Spec PyProof.Rows L2
section
variable (P : Program) (w : World) (K : PySem.W.Frag) (mg : Str → Option Value) (base : Heap)
def CalE (k : Nat) (x : Str) (sp : Sp) : Prop := ∃ f fd ps, FnOk P w K mg base (L2.CX P w) k f fd ps sp ∧ PySem.W.keepIn K (.ref f) = true ∧ Binds K fd ps [] ∧ mg x = some (.ref f)
def CalME (k : Nat) (C : Addr) (m : Str) (sp : Sp) : Prop := ∃ f fd ps, FnOk P w K mg base (L2.CX P w) k f fd ps sp ∧ Cls K C ∧ Meth K C m f ∧ Binds K fd ps []
def CalSE (k : Nat) (C : Addr) (m : Str) (sp : Sp) : Prop := ∃ f, FnR P w K mg base (L2.CX P w) k f sp ∧ PySem.W.findIn K (.ref C) m = some (some (.ref f)) ∧ PySem.W.isFn K (.ref f) = true
def MakRE (k : Nat) (x : Str) (C : Addr) (sp : Sp) : Prop := ∃ f, FnR P w K mg base (L2.CX P w) k f sp ∧ Mk K C f ∧ mg x = some (.ref C)
/-- an error's class: what its __init__ keeps -/
def MakE (k : Nat) (x : Str) (C : Addr) (fs : List Str) : Prop := ∃ B n i bm fI fd ps, ExB K C B n i bm ∧ PySem.W.findIn K (.ref C) "__init__" = some (some (.ref fI)) ∧ PySem.W.typeIn K (.ref fI) = some (.type "function") ∧ FnOk P w K mg base CX0 k fI fd ps (spExI C fs) ∧ Binds K fd ps [] ∧ mg x = some (.ref C)
end
section
variable {X : Cx} {E : XK}
/-- what leaves a def leaves it by its own promise -/
theorem px_def {E₁ : Value → Shared → Prop} (hs : X.stack = X.env :: X.outer) (hf : X.env.frame = some X.env.locals) (hex : X.ex = [])
    (hx : X.xe = fun e s' => wpAny (model X.prog X.w) X.A (leaving X.env e) (fun _ s'' => L2.CX X.prog X.w X.outer X.H_0 X.s_0 E e s'') E₁ s') : Passes (L2.CX X.prog X.w) X E := passes_call (takes_of hs hf hex hx) fun _ _ _ _ h => h
/-- nothing is raised -/
theorem px_none : Passes (L2.CX X.prog X.w) X E0 := fun _ _ _ _ _ _ _ h => by
  obtain ⟨_, _, _, _, _, _, _, _, _, _, _, _, z⟩ := h
  exact z.elim
variable {k j : Nat} {x m : Str} {C : Addr} {sp : Sp} {e o : Expr} {es : List Expr} {fs : List Str} {t : TA} {ta te : TE} {p pos apos : Pos}
theorem pe_cE (c : CalE X.prog X.w X.K X.mg X.base k x sp) (px : Passes (L2.CX X.prog X.w) X E) (hr : Room j X.A) (hk : k ≤ j) (hg : Gl X x) (ha : PA X (e :: es) t) (hdb : (x == ("__debug__" : Str)) = false := by decide)
    (he : starEach (e :: es) X.env = (false, eval e X.env) :: starEach es X.env := by rfl) (hpl : (backTo pos (starEach es X.env)).any (·.1) = false := by rfl) : PE X (.Call (.Name x p) (e :: es) [] pos) (tCall sp [] E t) := by
  obtain ⟨f, fd, ps, F, kp, b, g⟩ := c
  exact pe_call F (hr.mono hk) hg g kp b .nil px ha hdb he hpl
theorem pe_mE {pl : Sem Bool} (he : PE X o ta) (c : CalME X.prog X.w X.K X.mg X.base k C m sp) (px : Passes (L2.CX X.prog X.w) X E) (hr : Room j X.A) (hk : k ≤ j) (ha : PA X (e :: es) t)
    (hst : starEach (e :: es) X.env = (false, eval e X.env) :: starEach es X.env := by rfl) (hpl : (backTo pos (starEach es X.env)).any (·.1) = false := by rfl)
    (ht : eval (.Call (.Attribute o m apos) (e :: es) [] pos) X.env = (do
      let ov ← eval o X.env
      standAt apos.atName
      let (fv, fi) ← holding [ov] (getMethod ov m pl)
      callWith pos fv fi (backTo pos (starEach (e :: es) X.env)) (backToKw pos (keywordEach [] X.env))) := by rfl) :
    PE X (.Call (.Attribute o m apos) (e :: es) [] pos) (tMeth C m sp [] E ta t) := by
  obtain ⟨f, fd, ps, F, cl, mt, b⟩ := c
  exact pe_meth he cl mt F (hr.mono hk) b .nil px ha hst hpl ht
theorem pe_nR2E (c : MakRE X.prog X.w X.K X.mg X.base k x C sp) (px : Passes (L2.CX X.prog X.w) X E) (hr : Room j X.A) (hk : k + 1 ≤ j) (hg : Gl X x) (ha : PA X (e :: es) t) (h3 : (x == ("__debug__" : Str)) = false := by decide)
    (h4 : starEach (e :: es) X.env = (false, eval e X.env) :: starEach es X.env := by rfl) (h5 : (backTo pos (starEach es X.env)).any (·.1) = true := by rfl) : PE X (.Call (.Name x p) (e :: es) [] pos) (StX.tMakeR C sp E t) := by
  obtain ⟨f, F, M, m⟩ := c
  refine ⟨fun pins s σ H Q I h => wpAny_Call_Name_kw (ld_glob I hg m ?_ h3)⟩
  exact PySem.W.callWith_S2 (h₀ := X.base) I.ok.mod.kin M.kp (thn (ha.run pos pins s σ H _ I h) fun us s1 ⟨vs, H1, J, rv, q⟩ => ⟨J.kIn, StX.run_makeR M F (hr.mono hk) px J rv q⟩) h4 h5
theorem op_addSE (c : CalSE X.prog X.w X.K X.mg X.base k C "__add__" sp) (px : Passes (L2.CX X.prog X.w) X E) (hc : PySem.W.selfFirst X.K C = true) (hr : Room j X.A) (hk : k ≤ j) : OpR X (binaryOp .Add) (rOpO X.K C "add" sp E) := by
  obtain ⟨f, F, h1, h2⟩ := c
  exact op_addO hc h1 h2 F (hr.mono hk) px
variable {T : String}
theorem op_addSTE (c : CalSE X.prog X.w X.K X.mg X.base k C "__add__" sp) (px : Passes (L2.CX X.prog X.w) X E) (o : OwnT X.K C T "add") (hr : Room j X.A) (hk : k ≤ j) : OpR X (binaryOp .Add) (rOpT C T sp E) := by
  obtain ⟨f, F, h1, h2⟩ := c
  exact op_ownT (op := .Add) o (by show PySem.W.findIn X.K (.ref C) (PySem.dunder "add") = _; rw [du_add]; exact h1) h2 F (hr.mono hk) px
theorem op_mulSTE (c : CalSE X.prog X.w X.K X.mg X.base k C "__mul__" sp) (px : Passes (L2.CX X.prog X.w) X E) (o : OwnT X.K C T "mul") (hr : Room j X.A) (hk : k ≤ j) : OpR X (binaryOp .Mult) (rOpT C T sp E) := by
  obtain ⟨f, F, h1, h2⟩ := c
  exact op_ownT (op := .Mult) o (by show PySem.W.findIn X.K (.ref C) (PySem.dunder "mul") = _; rw [du_mul]; exact h1) h2 F (hr.mono hk) px
theorem op_raddSE (c : CalSE X.prog X.w X.K X.mg X.base k C "__radd__" sp) (px : Passes (L2.CX X.prog X.w) X E) (o : RadT X.K C T) (hr : Room j X.A) (hk : k ≤ j) : OpR X (binaryOp .Add) (rOpTR C T sp E) := by
  obtain ⟨f, F, h1, h2⟩ := c
  obtain ⟨fa, ha⟩ := o.ad
  obtain ⟨fo, ro, t1, t2, t3⟩ := o.t
  exact op_raddT o.sf ha t1 t2 t3 h1 h2 F (hr.mono hk) px
/-- an error made, to be raised -/
theorem pmk_E (c : MakE X.prog X.w X.K X.mg X.base k x C fs) (hr : Room j X.A) (hk : k + 1 ≤ j) (hf : fs.length ≤ 1000) (hg : Gl X x) (ha : PA X (e :: es) t) (hdb : (x == ("__debug__" : Str)) = false := by decide)
    (he : starEach (e :: es) X.env = (false, eval e X.env) :: starEach es X.env := by rfl) (hpl : (backTo pos (starEach es X.env)).any (·.1) = false := by rfl) : PMk X (.Call (.Name x p) (e :: es) [] pos) (tMkE C fs t) := by
  obtain ⟨B, n, i, bm, fI, fd, ps, T, iC, tI, F, b, g⟩ := c
  exact pmk_exB T iC tI F hr hk b hf hg g ha hdb he hpl
end
/-! ### a def whose code object is known: it makes lambdas -/
structure FunC (K : PySem.W.Frag) (x qual : Str) (st : Stmt) (f : Addr) (fd : FuncData) (c : Addr) : Prop where
  ex : ∃ (oc : Value) (od : Option Addr) (kV doc pm : Value) (an : Option Addr) (ct : Value) (osl : Array (Option Value)),
    fd = PySem.W.fnOf x qual (defArgs st) (defBody st) (defScope st) .none kV doc pm an (.ref c) ct ∧ K.lookup f = some ⟨oc, od, .func fd, osl⟩ ∧ PySem.W.codeIn K (.ref c) qual = true
  kp : PySem.W.keepIn K (.ref f) = true
section
variable {P : Program} {w : World} {K : PySem.W.Frag} {mg : Str → Option Value} {base : Heap}
theorem FunC.ok {x qual : Str} {st : Stmt} {f c : Addr} {fd : FuncData} {N ps : List Str} {k : Nat} {sp : Sp} (F : FunC K x qual st f fd c) (S : FnScope N ps (defScope st)) (len : ∀ vs H Q E, sp vs H Q E → vs.length = ps.length)
    (go : ∀ (A : Around) (outer : List Env) (s : Shared) (H : Hp) (vs : List V) (Q : VK) (E : XK), Room k (A.deeper (envOfC qual (defScope st) s.heap.objs.size f (.ref c))) → sp vs H Q E →
      ∃ t, PSs (cxOf CX0 P w K mg base N qual (defScope st) f (.ref c) A outer s H E).nox (defBody st) t ∧ t { nx := fun _ H' => Q .non H', rt := Q } (start N vs) H) : FnOk P w K mg base CX0 (k + 1) f fd ps sp := by
  obtain ⟨oc, od, kV, doc, pm, an, ct, osl, rfl, lk, hcd⟩ := F.ex
  refine fn_of lk hcd S len fun A outer s H vs Q E hr hsp => ?_
  obtain ⟨t, h, q⟩ := go A outer s H vs Q E hr hsp
  exact ⟨t, h.nox, q⟩
theorem FunC.fun {x qual : Str} {st : Stmt} {f c : Addr} {fd : FuncData} (F : FunC K x qual st f fd c) : Fun K x qual st f fd := by
  obtain ⟨oc, od, kV, doc, pm, an, ct, osl, e, lk, hcd⟩ := F.ex
  exact ⟨⟨oc, od, kV, doc, pm, an, _, ct, osl, e, lk, hcd⟩, F.kp⟩
end
end UL
set_option Elab.async false
set_option linter.all false
set_option maxRecDepth 100000
set_option maxHeartbeats 4000000
/-! ### a lambda handed to a def whose clauses look at the slots -/
namespace UL
open PySem PySem.Spec PyProof.Rows L2 LamX
section
variable {X : Cx} {pins : List (Addr × Obj)} {σ : L2.St} {H : Hp} {s : Shared}
/-- what a() does in the def that got the lambda at f: its code object's name q stands at c' -/
def tDeed (i : Nat) (f c' : Addr) (q : Str) (W : WX) (tl : XK → Hp → VK → Prop) : TE := fun σZ HZ Q => σZ[i]? = some (some (.ref f)) ∧ HZ c' = some (CodeO c' q) ∧ tl (WE W σZ) HZ Q
theorem pe_deed {CXg : CXT} {Eg : XK} {Ng : List Str} {qg : Str} {sg : Scope} {g f c' : Addr} {cdg pm ctv : Value} {params : Arguments} {body : Expr} {scope : Scope} {k i : Nat} {a : Str} {pn : List (Addr × Obj)} {xe : Value → Shared → Prop} {W : WX} {tb : XK → TE} {p1 p2 : Pos}
    (I : Inv X pins σ H s) (L : LamS X.env.scope scope) (hf : s.heap.get? f = some (PySem.W.kla_obj "<lambda>" (X.env.qual ++ "<lambda>") params body scope (cloFrom X.env.cells scope.names []) pm c' ctv)) (hfn : H f = none) (hfr : f ∉ frs X.stack)
    (hbind : bindArgs (PySem.W.kla_fn "<lambda>" (X.env.qual ++ "<lambda>") params body scope (cloFrom X.env.cells scope.names []) pm (.ref c') ctv) ⟨[], []⟩ = pure [])
    (tk : Takes ((cxOf CXg X.prog X.w X.K X.mg X.base Ng qg sg g cdg X.A X.stack s H Eg).tr pn xe) W) (hr : Room (k + 1) (X.A.deeper (envOfC qg sg s.heap.objs.size g cdg)))
    (hbody : ∀ (A : Around) (outer : List Env) (s : Shared) (H : Hp) (E : XK), Room k (A.deeper (lamEnv X scope s.heap.objs.size f c')) → PE (lamCx X A outer s H E scope f c') body (tb E))
    (hN : Ng[i]? = some a) (hv : Vis sg a) (hd : (a == ("__debug__" : Str)) = false) (hcd : (a == ("__classdict__" : Str)) = false) :
    PE ((cxOf CXg X.prog X.w X.K X.mg X.base Ng qg sg g cdg X.A X.stack s H Eg).tr pn xe) (.Call (.Name a p1) [] [] p2) (tDeed i f c' (X.env.qual ++ "<lambda>") W fun E H' Q' => tb E σ H' Q') := by
  refine ⟨fun pinsZ sZ σZ HZ Q IZ hh => ?_⟩
  obtain ⟨at_, hc, ht⟩ := hh
  have E : XK := WE W σZ
  refine wpAny_Call_Name_kw (thn ((pe_var (pos := p1) (i := i) hN hv hd hcd).run pinsZ sZ σZ HZ (fun v H1 => v = .ref f ∧ H1 = HZ) IZ ⟨.ref f, at_, rfl, rfl⟩) fun u s1 ⟨v, H1, I1, r1, ev, eH⟩ => ?_)
  subst ev eH
  cases (show u = Value.ref f from r1)
  have of1 := I1.base.keep f _ hf hfn hfr (fun z => nomatch (show f ∈ ([] : List Addr) from z))
  refine PySem.W.callWith_F0 ⟨_, _, _, _, of1⟩ ?_
  have un : Un (frs X.stack) [] H H1 s.heap s1.heap := I1.base
  obtain ⟨⟨oc, vs, t, hoc, hdc, hvc⟩, _, _⟩ := I1.hok c' _ hc
  have run : codeAny (model X.prog X.w) (X.A.deeper (envOfC qg sg s.heap.objs.size g cdg)) (.call (.ref f) ⟨[], []⟩) (CR (L2.CX X.prog X.w) (envOfC qg sg s.heap.objs.size g cdg :: X.stack) X.prog X.w H1 s1 Q (WE W σZ)) s1 := by
    refine PySem.W.kla_callFunE hr.depth of1 rfl L.co L.gen rfl ⟨c', oc, vs, t, rfl, hoc, hdc, hvc⟩ ?_
    rw [hbind]
    refine wpAny_pure (wpAny_newFunctionEnv (fun y hy => (L.own y hy).2) (fun y hy => absurd hy (by simp)) (fun h₁ hns hsb => ⟨I1.nolimit.fresh _ hsb, ?_⟩) L.kind)
    have kp : ∀ b o, s1.heap.get? b = some o → h₁.get? b = some o := fun b o z => hsb.extBut b o (Nat.ne_of_lt (Heap.lt_size z)) (Heap.get?_push_of_some _ z)
    have J := lam_start2 (tk := s1.toks + ([] : List (Str × Value)).length) (E := WE W σZ) (f := f) (c' := c') I L I1.env0 hr.hd un hns kp
    refine PySem.W.kla_codeExpr (wpAny_mono ((hbody _ _ s1 H1 (WE W σZ) (hr.deeper _)).run [] _ _ H1 Q J ht) (fun v s' hq => ?_) fun e s' hq => hq)
    obtain ⟨w', H', J', rv, q⟩ := hq
    exact ⟨w', H', J'.os, J'.bare, J'.base, J'.hok, rv, q⟩
  refine wpAny_call (codeAny_mono run fun r s' hq => ?_)
  rcases r with e | fl
  · exact passAt tk σZ pinsZ H1 s1 e s' I1 hq
  cases fl with
  | ret u => exact I1.after hq
  | next => exact hq.elim
  | brk => exact hq.elim
  | cont => exact hq.elim
end
/-- the def that calls what it got, its clauses free to look at the slots -/
def GivesS (n : Nat) (X : Cx) (Ng : List Str) (x : Str) (sg : Scope) (g : Addr) (cdg : Value) (bg : List Stmt) (a : Str) (q : Str) (TT : (XK → Hp → VK → Prop) → Hp → VK → Prop) : Prop :=
  ∀ (f c' : Addr) (s : Shared) (H : Hp) (Q : VK) (tl : XK → Hp → VK → Prop),
    (∀ (W : WX) (pn : List (Addr × Obj)) (xe : Value → Shared → Prop) (p1 p2 : Pos), Takes ((cxOf CX0 X.prog X.w X.K X.mg X.base Ng x sg g cdg X.A X.stack s H E0).tr pn xe) W →
      PE ((cxOf CX0 X.prog X.w X.K X.mg X.base Ng x sg g cdg X.A X.stack s H E0).tr pn xe) (.Call (.Name a p1) [] [] p2) (tDeed 0 f c' q W tl)) →
    Room n X.A → H c' = some (CodeO c' q) → TT tl H Q →
    ∃ t, PSs (cxOf CX0 X.prog X.w X.K X.mg X.base Ng x sg g cdg X.A X.stack s H E0).nox bg t ∧ t { nx := fun _ H' => Q .non H', rt := Q } (L2.start Ng [.ref f]) H
section
variable {X : Cx}
/-- x(lambda: body) -/
theorem pe_lamS {T : List (Addr × Str)} {TT : (XK → Hp → VK → Prop) → Hp → VK → Prop} {x a : Str} {g c P : Addr} {k n : Nat} {pg : Arguments} {bg : List Stmt} {sg : Scope} {dV kV doc pm cdv ct oc : Value} {an od : Option Addr} {osl : Array (Option Value)} {Ng : List Str}
    {params : Arguments} {body : Expr} {scope : Scope} {t : XK → TE} {p lpos pos : Pos} (hg : Gl X x) (hm : X.mg x = some (.ref g)) (hk : PySem.W.keepIn X.K (.ref g) = true)
    (lk : X.K.lookup g = some ⟨oc, od, .func (PySem.W.fnOf x x pg bg sg dV kV doc pm an cdv ct), osl⟩) (hcg : PySem.W.codeIn X.K cdv x = true) (hb : Binds X.K (PySem.W.fnOf x x pg bg sg dV kV doc pm an cdv ct) [a] []) (Sg : FnScope Ng [a] sg) (hNg : Ng[0]? = some a) (hva : Vis sg a)
    (hG : GivesS n X Ng x sg g cdv bg a (X.env.qual ++ "<lambda>") TT)
    (TB : TabB X.base X.mg c P) (hcode : X.env.code = .ref c) (hmT : (P, X.env.qual ++ "<lambda>") ∈ T) (hu : ∀ p ∈ T, p.1 = P → p.2 = X.env.qual ++ "<lambda>") (hr : Room (k + 2) X.A) (hn : n ≤ k + 2) (L : LamS X.env.scope scope) (hdef : defaultsOf params X.env = ([], []))
    (hbind : ∀ (q : Str) (cl : List (Str × Addr)) (pm cv ctv : Value), bindArgs (PySem.W.kla_fn "<lambda>" q params body scope cl pm cv ctv) ⟨[], []⟩ = pure [])
    (hbody : ∀ (A : Around) (outer : List Env) (s : Shared) (H : Hp) (E : XK) (f c' : Addr), Room k (A.deeper (lamEnv X scope s.heap.objs.size f c')) → PE (lamCx X A outer s H E scope f c') body (t E))
    (hdb : (x == ("__debug__" : Str)) = false) (hd : (a == ("__debug__" : Str)) = false) (hcd : (a == ("__classdict__" : Str)) = false) :
    PE X (.Call (.Name x p) [.Lambda params body scope lpos] [] pos) (tLam T TT t) := by
  refine ⟨fun pins s σ H Q I hh => wpAny_Call_Name_kw (ld_glob I hg hm ?_ hdb)⟩
  obtain ⟨hT, h⟩ := hh
  refine PySem.W.callWith_K (h₀ := X.base) I.ok.mod.kin hk ?_ (by rfl) (by rfl)
  show wpAny _ _ (spliced ((false, eval (.Lambda params body scope lpos) X.env) :: backTo pos (starEach [] X.env))) _ _ s
  refine Calls.spliced_cons (lam_make2 I TB hcode hmT hu hT hdef (L.has I.ok) fun f c' pm' ctv H1 s' I1 eN T1 hf hfn hfr hco => Calls.spliced_nil ⟨I1.kIn, ?_⟩)
  have rc : codeAny (model X.prog X.w) X.A (.call (.ref g) ⟨[.ref f], []⟩) (CR CX0 X.stack X.prog X.w H1 s' Q E0) s' := by
    refine run_ofS (N := Ng) (ps := [a]) (us := [.ref f]) (vs := [.ref f]) lk hcg Sg hr I1.env0 (hb s' [.ref f] I1.kIn rfl) (.cons rfl .nil) rfl fun hr' => ?_
    obtain ⟨t', ht', hq'⟩ := hG f c' s' H1 Q (fun E H' Q' => t E σ H' Q') (fun W pn xe p1 p2 tk => pe_deed (i := 0) I1 L hf hfn hfr (hbind _ _ _ _ _) tk hr' (fun A outer s H E hr2 => hbody A outer s H E f c' hr2) hNg hva hd hcd) (hr.mono hn) hco (h H1 eN T1)
    exact ⟨t', ht'.nox, hq'⟩
  refine wpAny_call (codeAny_mono rc fun r s2 hq => ?_)
  rcases r with e | fl
  · exact (show False from hq).elim
  cases fl with
  | ret u => exact I1.after hq
  | next => exact hq.elim
  | brk => exact hq.elim
  | cont => exact hq.elim
end
/-- what the maker of a lambda knows of the def that gets it -/
def CalL (P : Program) (w : World) (K : PySem.W.Frag) (mg : Str → Option Value) (base : Heap) (n : Nat) (x a : Str) (TT : (XK → Hp → VK → Prop) → Hp → VK → Prop) : Prop :=
  ∃ (g : Addr) (oc : Value) (od : Option Addr) (pg : Arguments) (bg : List Stmt) (sg : Scope) (dV kV doc pm cdv ct : Value) (an : Option Addr) (osl : Array (Option Value)) (Ng : List Str),
    mg x = some (.ref g) ∧ PySem.W.keepIn K (.ref g) = true ∧ K.lookup g = some ⟨oc, od, .func (PySem.W.fnOf x x pg bg sg dV kV doc pm an cdv ct), osl⟩ ∧ PySem.W.codeIn K cdv x = true ∧ Binds K (PySem.W.fnOf x x pg bg sg dV kV doc pm an cdv ct) [a] [] ∧ FnScope Ng [a] sg ∧ Ng[0]? = some a ∧ Vis sg a ∧
    ∀ (X : Cx) (q : Str), X.prog = P → X.w = w → X.K = K → X.mg = mg → X.base = base → GivesS n X Ng x sg g cdv bg a q TT
section
variable {X : Cx} {n j : Nat} {x a : Str} {T : List (Addr × Str)} {TT : (XK → Hp → VK → Prop) → Hp → VK → Prop} {c P : Addr} {params : Arguments} {body : Expr} {scope : Scope} {t : XK → TE} {p lpos pos : Pos}
theorem pe_lam (cl : CalL X.prog X.w X.K X.mg X.base n x a TT) (hg : Gl X x) (TB : TabB X.base X.mg c P) (hcode : X.env.code = .ref c) (hmT : (P, X.env.qual ++ "<lambda>") ∈ T) (hu : ∀ p ∈ T, p.1 = P → p.2 = X.env.qual ++ "<lambda>") (hr : Room j X.A) (hn : n ≤ j) (hj : 2 ≤ j)
    (L : LamS X.env.scope scope) (hdef : defaultsOf params X.env = ([], [])) (hbind : ∀ (q : Str) (cl : List (Str × Addr)) (pm cv ctv : Value), bindArgs (PySem.W.kla_fn "<lambda>" q params body scope cl pm cv ctv) ⟨[], []⟩ = pure [])
    (hbody : ∀ (A : Around) (outer : List Env) (s : Shared) (H : Hp) (E : XK) (f c' : Addr), Room (j - 2) (A.deeper (lamEnv X scope s.heap.objs.size f c')) → PE (lamCx X A outer s H E scope f c') body (t E))
    (hdb : (x == ("__debug__" : Str)) = false := by decide) (hd : (a == ("__debug__" : Str)) = false := by decide) (hcd : (a == ("__classdict__" : Str)) = false := by decide) :
    PE X (.Call (.Name x p) [.Lambda params body scope lpos] [] pos) (tLam T TT t) := by
  obtain ⟨g, oc, od, pg, bg, sg, dV, kV, doc, pm, cdv, ct, an, osl, Ng, hm, kp, lk, hcg, hb, Sg, hN, hv, hG⟩ := cl
  have hj2 : j - 2 + 2 = j := by omega
  exact pe_lamS (k := j - 2) hg hm kp lk hcg hb Sg hN hv (hG X _ rfl rfl rfl rfl rfl) TB hcode hmT hu (by rw [hj2]; exact hr) (by omega) L hdef hbind hbody hdb hd hcd
end
end UL
set_option Elab.async false
set_option linter.all false
set_option maxRecDepth 100000
set_option maxHeartbeats 4000000
/-! ### a tuple times a count: once is the tuple itself -/
namespace UL
open PySem PySem.Spec PyProof.Rows L2
theorem tuple_mul1 (l : Addr) (items : Array Value) (n : Nat) (sl : Array (Option Value)) (dd : Option Addr) (u : Tok) :
    Meets (Builtin.«tuple.__mul__» ⟨[.ref l, .int 1 u], []⟩) (fun _ R s => s.heap.get? l = some { cls := .type "tuple", dict := dd, data := .seq items n, slots := sl } ∧ R (.ok (.ret (Value.ref l))) s) :=
  .of_wp fun prog w A R s h => by
    obtain ⟨hp, g, d, tk, os⟩ := s
    obtain ⟨hl, h⟩ := h
    have f1 := AutoSeq1.idx_int
    wp_walk using wpAny_loadPart' hl
    repeat (first
      | (refine wpAny_ite_false (decide_eq_false (by decide)) ?_; wp_walk using wpAny_loadPart' hl)
      | (refine wpAny_ite_true (decide_eq_true (by simp)) ?_; wp_walk using wpAny_loadPart' hl))
    exact ⟨_, rfl, h⟩
theorem tuple_mul0 (l : Addr) (items : Array Value) (n : Nat) (dd : Option Addr) (sl : Array (Option Value)) (u : Tok) (hi : items.isEmpty = false) :
    Meets (Builtin.«tuple.__mul__» ⟨[.ref l, .int 0 u], []⟩) (fun _ R s => s.heap.get? l = some { cls := .type "tuple", dict := dd, data := .seq items n, slots := sl } ∧
      R (.ok (.ret (Value.ref s.heap.objs.size))) { s with heap := s.heap.push { cls := Value.type "tuple", data := Data.seq #[] }, toks := s.toks }) :=
  .of_wp fun prog w A R s h => by
    obtain ⟨hp, g, d, tk, os⟩ := s
    obtain ⟨hl, h⟩ := h
    have f1 := AutoSeq1.idx_int
    wp_walk using wpAny_loadPart' hl
    repeat (first
      | (refine wpAny_ite_false (decide_eq_false (by simp [hi])) ?_; wp_walk using wpAny_loadPart' hl)
      | (refine wpAny_ite_true (decide_eq_true (by simp)) ?_; wp_walk using wpAny_loadPart' hl))
    exact ⟨_, rfl, h⟩
structure RepOk (n : Nat) (k : Int) : Prop where
  lo : 0 ≤ k
  hi : k ≤ 100000
  mul : (n : Int) * k ≤ 1000000
/-- t * k of a tuple that is not empty, k at least 0 -/
def rRepS (K : PySem.W.Frag) : R2 := fun x y H Q => ∃ l k xs, x = .ref l ∧ y = .int k ∧ SqT K H l xs ∧ xs ≠ [] ∧ RepOk xs.length k ∧
  ∀ p H', L2.Same H H' → SqT K H' p (List.replicate k.toNat xs).flatten → Q (.ref p) H'
theorem op_repS {X : Cx} : OpR X (binaryOp .Mult) (rRepS X.K) := by
  intro pins s σ H x y v u Q I rx ry h
  obtain ⟨l, k, xs, rfl, rfl, hT, hne, ⟨h1, h2, hz⟩, q⟩ := h
  cases rx
  obtain ⟨t, rfl⟩ := ry
  obtain ⟨its, r, ⟨⟨cls, dd, data, sl⟩, ho, hc, n, hd⟩, hs⟩ := I.tuple hT
  simp only at hc hd
  subst hc hd
  have hle : its.length = xs.length := r.length.symm
  have hn : its ≠ [] := fun e => hne (by
    rw [e] at hle
    exact List.eq_nil_of_length_eq_zero hle.symm)
  have hi : its.toArray.isEmpty = false := by
    cases its with
    | nil => exact absurd rfl hn
    | cons a b => rfl
  have hsz0 : its.toArray.size = xs.length := by rw [List.size_toArray, hle]
  have flen0 : k.toNat * xs.length ≤ 1000000 := by
    have e : ((k.toNat * xs.length : Nat) : Int) = (xs.length : Int) * k := by rw [Int.natCast_mul, Int.toNat_of_nonneg h1, Int.mul_comm]
    omega
  have flen : (List.replicate k.toNat its).flatten.length ≤ sizeLine := by
    rw [PyProof.Rows.lm_len_rep_flat, hle, sizeLine_eq]
    omega
  have flen2 : (List.replicate k.toNat xs).flatten.length ≤ sizeLine := by
    rw [PyProof.Rows.lm_len_rep_flat, sizeLine_eq]
    omega
  refine wpAny_binaryOp_repeat_ref (T := "tuple") (U := "int") (by decide) ⟨_, ho, rfl⟩ (fun s' => typeIs_int s' k t) noFill_tuple_mul F.fills_int_mul F.slot_int_rmul repeat_tuple F.slot_int_index.lookup
    (call_meets F.slot_int_rmul (typeIs_int s k t) F.entry_int_rmul (F.args_int_rmul_2 _ _) (int_rmul_tuple k t l its.toArray n dd sl)
      ⟨ho, rfl, ⟨_, ho, rfl⟩, ?_⟩)
  by_cases e1 : k = 1
  · subst e1
    refine call_meets F.slot_tuple_mul ⟨_, ho, rfl⟩ F.entry_tuple_mul (F.args_tuple_mul_2 _ _) (tuple_mul1 l its.toArray n sl dd t) ⟨ho, ?_⟩
    exact ⟨.ref l, H, I, rfl, q l H (L2.Same.refl _) (by simpa using hT)⟩
  by_cases e0 : k = 0
  · subst e0
    refine call_meets F.slot_tuple_mul ⟨_, ho, rfl⟩ F.entry_tuple_mul (F.args_tuple_mul_2 _ _) (tuple_mul0 l its.toArray n dd sl t hi) ⟨ho, ?_⟩
    refine ⟨.ref s.heap.objs.size, _, I.laid (t' := s.toks) (o := .tup []) (fun b ob q => Heap.get?_push_of_some _ q) (Nat.le_refl _) ?_, rfl, ?_⟩
    · exact ⟨by simp, [], .nil, IsTup.new _ _⟩
    · exact q _ _ (same_new (I.hok.fresh (Nat.le_refl _))) (SqT.of upd_same)
  have c0 : (decide (k < -(2 ^ 63)) || decide (k ≥ 2 ^ 63)) = false := by
    rw [decide_eq_false (by omega), decide_eq_false (by omega)] <;> rfl
  have c1 : (its.toArray.isEmpty || k == 1) = false := by
    rw [hi, Bool.false_or]
    exact beq_eq_false_iff_ne.mpr (by omega)
  have c2 : (decide (k ≤ 0) || its.toArray.isEmpty) = false := by
    rw [hi, Bool.or_false]
    exact decide_eq_false (by omega)
  have c4 : Builtin.Tuple.tupleTooMany (((its.toArray.size : Nat) : Int) * k) = false := by
    unfold Builtin.Tuple.tupleTooMany
    rw [sizeLine_eq, hsz0]
    exact decide_eq_false (by omega)
  refine call_meets F.slot_tuple_mul ⟨_, ho, rfl⟩ F.entry_tuple_mul (F.args_tuple_mul_2 _ _) (tuple_mulW l its.toArray n dd sl k t c0 c1 c2 (by rw [hsz0]; omega) c4 (by rw [size_rep, List.size_toArray]; exact flen)) ⟨ho, ?_⟩
  rw [size_rep]
  refine ⟨.ref s.heap.objs.size, _, I.laid (t' := s.toks) (o := .tup (List.replicate k.toNat xs).flatten) (fun b ob q => Heap.get?_push_of_some _ q) (Nat.le_refl _) ?_, rfl, q _ _ (same_new (I.hok.fresh (Nat.le_refl _))) (SqT.of upd_same)⟩
  exact ⟨flen2, _, r.rep k.toNat, IsTup.new _ _⟩
end UL
namespace UL
open PySem PySem.Spec PyProof.Rows L2
/-- t[lo:hi] of a tuple, the whole or not -/
def rSlS (K : PySem.W.Frag) : V → Option Int → Option Int → Hp → VK → Prop := fun x lo hi H Q => ∃ a xs, x = .ref a ∧ SqT K H a xs ∧ ∀ p H', L2.Same H H' → SqT K H' p (cutV xs lo hi) → Q (.ref p) H'
theorem sl_tupS {X : Cx} : SlR X (rSlS X.K) := by
  intro pins s σ H x v vl vu lo hi sl Q I rx hs pl pu h
  obtain ⟨a, xs, rfl, hx, q⟩ := h
  refine sl_tupA pins s σ H _ v vl vu lo hi sl Q I rx hs pl pu ⟨a, xs, rfl, hx, fun hw => ?_, fun _ p hp => q p _ (same_new hp) (SqT.of upd_same)⟩
  refine q a H (L2.Same.refl _) ?_
  have e : cutV xs lo hi = xs := by
    unfold cutV
    rw [hw.1, hw.2]
    simp
  rw [e]
  exact hx
/-- t + u of tuples, any -/
def rCatF (K : PySem.W.Frag) : R2 := fun x y H Q => ∃ a b xs ys, x = .ref a ∧ y = .ref b ∧ SqT K H a xs ∧ SqT K H b ys ∧ xs.length + ys.length ≤ sizeLine ∧ ∀ p H', L2.Same H H' → SqT K H' p (xs ++ ys) → Q (.ref p) H'
theorem op_catF {X : Cx} : OpR X (binaryOp .Add) (rCatF X.K) := by
  intro pins s σ H x y v u Q I rx ry h
  obtain ⟨a, b, xs, ys, rfl, rfl, ha, hb, hz, q⟩ := h
  refine op_catA pins s σ H _ _ v u Q I rx ry ⟨a, b, xs, ys, rfl, rfl, ha, hb, hz, fun e => ?_, fun _ e => ?_, fun _ _ p hp => ?_⟩
  · refine q b H (L2.Same.refl _) ?_
    rw [e]
    exact hb
  · refine q a H (L2.Same.refl _) ?_
    rw [e, List.append_nil]
    exact ha
  · exact q p _ (same_new hp) (SqT.of upd_same)
/-! ### a tuple that is surely no more than a tuple -/
structure TupO (o : Obj) : Prop where
  cls : o.cls = .type "tuple"
  dict : o.dict = Option.none
def tBMF (T : String) (r : V → List V → Hp → VK → Prop) (to : TE) (t : TA) : TE := fun σ H Q => to σ H fun x H1 => (∃ p o u, x = .ref p ∧ H1 p = some (.frz o u) ∧ TupO o) ∧ t σ H1 fun xs H2 => r x xs H2 Q
theorem pe_bmF {X : Cx} {o e : Expr} {es : List Expr} {to : TE} {t : TA} {name : Str} {apos cpos : Pos} {id : String} {r : V → List V → Hp → VK → Prop}
    (pa : PlainAttrs "tuple") (slot : Slot "tuple" name id) (hty : typeOf (.builtin id) = pure (.type "method_descriptor")) (hm : MtR X id r) (ho : PE X o to) (ha : PA X (e :: es) t)
    (hbase : attributeBase o name X.env (eval o X.env) = eval o X.env := by rfl)
    (hfew : ((backTo cpos (starEach (e :: es) X.env)).all (fun x => !x.1) && (backToKw cpos (keywordEach [] X.env)).all (fun x => x.1.isSome)
      && decide ((e :: es).length + ([] : List Keyword).length + (if ([] : List Keyword).isEmpty then 0 else 1) < 30)) = true := by rfl)
    (hline : (apos.endLine == cpos.line) = true := by rfl) (hs : starEach (e :: es) X.env = (false, eval e X.env) :: starEach es X.env := by rfl) (hplain : (backTo cpos (starEach es X.env)).any (·.1) = false := by rfl) :
    PE X (.Call (.Attribute o name apos) (e :: es) [] cpos) (tBMF "tuple" r to t) := by
  refine ⟨fun pins s σ H Q I h => ?_⟩
  refine wpAny_Call_method_late hbase hfew hline rfl (thn (ho.run pins s σ H _ I h) fun v s1 ⟨x, H1, I1, r1, ⟨p, ob, ho, ex, hp, hto⟩, q1⟩ => ?_)
  subst ex
  cases (show v = Value.ref p from r1)
  have hg : s1.heap.get? p = some ob := (I1.hok p _ hp).1
  refine ⟨"tuple", id, pa, slot, hty, ⟨ob, hg, hto.cls⟩, fun a e => (by cases e; exact ⟨ob, hg, hto.dict⟩), ?_⟩
  have hA := ha.run cpos pins s1 σ H1 _ I1 q1
  rw [hs] at hA ⊢
  refine Calls.callWith_builtin (by show (false || (backTo cpos (starEach es X.env)).any (·.1)) = false; rw [hplain] <;> rfl) (Calls.evalArgs_plain ?_)
  exact thn hA fun us s2 ⟨vs, H2, I2, r2, q2⟩ => hm pins s2 σ H2 (.ref p) vs (.ref p) us Q I2 rfl r2 q2
section
variable {CX : CXT} {P : Program} {w : World} {K : PySem.W.Frag} {mg : Str → Option Value} {base : Heap} {k : Nat} {f : Addr} {name qual : Str} {params : Arguments} {body : List Stmt} {scope : Scope} {dV kV doc pm cdv ct oc : Value} {an od : Option Addr}
  {osl : Array (Option Value)} {N ps : List Str} {sp : Sp}
/-- def f(a, .., *v): what is left over is a new tuple, and no more -/
theorem fn_starF {pv : Str} (lk : K.lookup f = some ⟨oc, od, .func (PySem.W.fnOf name qual params body scope dV kV doc pm an cdv ct), osl⟩) (hcd : PySem.W.codeIn K cdv qual = true) (S : FnScope N (ps ++ [pv]) scope) (hCX : StX.CXUp CX)
    (hb : ∀ us rest : List Value, us.length = ps.length → bindArgs (PySem.W.fnOf name qual params body scope dV kV doc pm an cdv ct) ⟨us ++ rest, []⟩ = (newTuple rest >>= fun t => pure (ps.zip us ++ [(pv, t)])))
    (hbody : ∀ (A : Around) (outer : List Env) (s : Shared) (H : Hp) (vs : List V) (Q : VK) (E : XK), Room k (A.deeper (envOfC qual scope s.heap.objs.size f cdv)) → sp vs H Q E →
      ∃ t, PSs (cxOf CX P w K mg base N qual scope f cdv A outer s H E) body t ∧ t { nx := fun _ H' => Q .non H', rt := Q } (start N vs) H) :
    FnR P w K mg base CX (k + 1) f (fun vs H Q E => ∃ ws rest, vs = ws ++ rest ∧ ws.length = ps.length ∧ rest.length ≤ sizeLine ∧ ∀ p o, H p = Option.none → TupO o → sp (ws ++ [V.ref p]) (upd H p (.frz o (.tup rest))) Q E) := by
  intro A outer s H us vs Q E hr e0 r hsp
  obtain ⟨ws, rest, ev, hl, hz, hq⟩ := hsp
  subst ev
  obtain ⟨u1, u2, eu, r1, r2⟩ := StX.vals_split r
  subst eu
  have hn : H s.heap.objs.size = Option.none := e0.hok.fresh (Nat.le_refl _)
  have hl1 : u1.length = ps.length := by rw [← r1.length]; exact hl
  have hl2 : u2.length ≤ sizeLine := by rw [← r2.length]; exact hz
  refine StX.run_bnd lk hcd S hr e0 (G := fun xs H2 => ∃ p o, H p = Option.none ∧ TupO o ∧ xs = ws ++ [V.ref p] ∧ H2 = upd H p (.frz o (.tup rest))) (fun A' Ex Q' h => ?_) fun s2 H2 xs ⟨p, o, hp, ho, ex, eH⟩ hr' => ?_
  · rw [hb u1 u2 hl1]
    refine wpAny_bind (wpAny_newTuple (wpAny_pure ?_) hl2)
    have new : ObjOk P w (upd H s.heap.objs.size (.frz ({ cls := .type "tuple", data := .seq u2.toArray } : Obj) (.tup rest))) (s.heap.push ({ cls := .type "tuple", data := .seq u2.toArray } : Obj)) s.heap.objs.size (.frz ({ cls := .type "tuple", data := .seq u2.toArray } : Obj) (.tup rest)) :=
      ⟨Heap.get?_push_size _ rfl, hz, u2, r2, ⟨_, Heap.get?_push_size _ rfl, rfl, _, rfl⟩⟩
    have un := StX.un_laid (fs := frs outer) (s := s) (o := ({ cls := .type "tuple", data := .seq u2.toArray } : Obj)) (u := .frz ({ cls := .type "tuple", data := .seq u2.toArray } : Obj) (.tup rest)) hn
    have z := h _ _ (ws ++ [V.ref s.heap.objs.size]) (u1 ++ [Value.ref s.heap.objs.size]) (StX.env0_laid e0 new) un rfl (fun e s' => hCX outer s H _ _ E e s' un (fun b o q => Heap.get?_push_of_some _ q) rfl) (r1.append (.cons rfl .nil))
      (by rw [List.length_append, List.length_append, hl] <;> rfl) ⟨_, ({ cls := .type "tuple", data := .seq u2.toArray } : Obj), hn, ⟨rfl, rfl⟩, rfl, rfl⟩
    rw [List.zip_append hl1.symm] at z
    exact z
  · subst ex eH
    exact hbody A outer s2 _ _ Q E hr' (hq p o hp ho)
end
end UL
namespace UL
open PySem PySem.Spec PyProof.Rows L2
theorem SqT.frz {K : PySem.W.Frag} {H : Hp} {a : Addr} {o : Obj} {xs : List V} (h : H a = some (.frz o (.tup xs))) : SqT K H a xs := .inl (.inr ⟨o, h⟩)
theorem Keep.frz {H H' : Hp} {a : Addr} {o : Obj} {u : HO} (k : Keep H H') (h : H a = some (.frz o u)) : H' a = some (.frz o u) := k _ _ h fun xs z => by cases z
theorem sqT_same {K : PySem.W.Frag} {H H' : Hp} {a : Addr} {xs : List V} (h : SqT K H a xs) (s : L2.Same H H') : SqT K H' a xs := by
  rcases h with (h | ⟨o, h⟩) | h
  · exact .inl (.inl (s _ _ h))
  · exact .inl (.inr ⟨o, s _ _ h⟩)
  · exact .inr h
end UL
set_option Elab.async false
set_option linter.all false
set_option maxRecDepth 100000
set_option maxHeartbeats 4000000
/-! ### x[y] and y in x by a class's own defs -/
namespace UL
open PySem PySem.Spec PyProof.Rows L2
section
variable {X : Cx} {k j : Nat} {C : Addr} {sp : Sp} {a b : Expr} {ta tb : TE} {pos : Pos}
/-- x[y] by the def of x's class at C -/
def rIxO (C : Addr) (sp : Sp) (E : XK) : R2 := fun x y H Q => ∃ (a dx : Addr) (fs : List (Str × V)), x = .ref a ∧ H a = some (.ins C dx fs) ∧ sp [.ref a, y] H Q E
theorem pe_ixS (c : CalS X.prog X.w X.K X.mg X.base k C "__getitem__" sp) (hg : ∃ g, PySem.W.findIn X.K (.ref C) "__getitem__" = some (some (.ref g)) ∧ PySem.W.fnIn X.K g = true) (hr : Room j X.A) (hk : k + 1 ≤ j) (ha : PE X a ta) (hb : PE X b tb)
    (hsl : ∀ o i, subscripted b true o i = runValue (.builtin "lifetime.subscript" ⟨[o, i], []⟩)) : PE X (.Subscript a b pos) (tOp (rIxO C sp E0) ta tb) := by
  obtain ⟨f, F, h1, h2⟩ := c
  obtain ⟨g, g1, g2⟩ := hg
  have e : g = f := by
    rw [h1] at g1
    injection g1 with z
    injection z with z
    injection z with z
    exact z.symm
  subst e
  refine ⟨fun pins s σ H Q I h => ?_⟩
  refine Subscript_ (binT ha hb I h fun v u s2 x y H2 I2 rx ry q => ?_)
  obtain ⟨p, dx, fs, rfl, hp, q⟩ := q
  cases (show v = Value.ref p from rx)
  obtain ⟨mA, O, _⟩ := ins_get I2.hok hp
  obtain ⟨od, J, _⟩ := O.look
  obtain ⟨m, hF⟩ := I2.fr
  refine PySem.W.sub_K hF I2.ok.mod.kin J h1 g2 h2 (wpAny_mono (wpAny_call (SlX.run_at (us := [.ref p, u]) (ws := [.ref p, y]) F (hr.mono hk).in1 I2.env0.in1 pass0 I2 (.cons rfl (.cons ry .nil)) q)) (fun w s' z => ?_) fun _ _ e => e) (hsl _ _)
  exact z
end
end UL
set_option Elab.async false
set_option linter.all false
set_option maxRecDepth 100000
set_option maxHeartbeats 4000000
namespace UL
open PySem PySem.Spec PyProof.Rows L2
section
variable {X : Cx} {k j : Nat} {C : Addr} {sp : Sp} {x : Str} {e : Expr} {es : List Expr} {t : TA} {p pos : Pos} {E : XK}
/-- C(..) of a class whose making may raise -/
theorem pe_nRE (c : MakRE X.prog X.w X.K X.mg X.base k x C sp) (px : Passes (L2.CX X.prog X.w) X E) (hr : Room j X.A) (hk : k + 1 ≤ j) (hg : Gl X x) (ha : PA X (e :: es) t) (hdb : (x == ("__debug__" : Str)) = false := by decide)
    (he : starEach (e :: es) X.env = (false, eval e X.env) :: starEach es X.env := by rfl) (hpl : (backTo pos (starEach es X.env)).any (·.1) = false := by rfl) : PE X (.Call (.Name x p) (e :: es) [] pos) (StX.tMakeR C sp E t) := by
  obtain ⟨f, F, M, g⟩ := c
  exact StX.pe_makeR M F (hr.mono hk) hg g px ha hdb he hpl
end
end UL
set_option Elab.async false
set_option linter.all false
set_option maxRecDepth 100000
set_option maxHeartbeats 4000000
/-! ### data with dicts: what repr says of it -/
namespace UL
open PySem PySem.Spec PyProof.Rows L2
def keyD : Key → PyData
  | .inl i => .int i
  | .inr x => .str x
def flatD : V → PyData
  | .non => .none
  | .bl b => .bool b
  | .int i => .int i
  | .str x => .str x
  | _ => .none
/-- what stands in a list that is told: data without dicts, or a dict of plain values -/
inductive Itm (K : PySem.W.Frag) (H : Hp) : V → PyData → Prop
  | dp {v : V} {d : PyData} (h : Dp K H v d) (n : d.hasDict = false) : Itm K H v d
  | dct {a : Addr} {kvs : List (Key × V)} (h : H a = some (.dK kvs)) (q : ∀ p ∈ kvs, flatV p.2 = true) : Itm K H (.ref a) (.dict (kvs.map fun p => (keyD p.1, flatD p.2)))
inductive ItmAll (K : PySem.W.Frag) (H : Hp) : List V → List PyData → Prop
  | nil : ItmAll K H [] []
  | cons {v : V} {vs : List V} {d : PyData} {ds : List PyData} (h : Itm K H v d) (q : ItmAll K H vs ds) : ItmAll K H (v :: vs) (d :: ds)
theorem Itm.flat {K : PySem.W.Frag} {H : Hp} : ∀ {v : V}, flatV v = true → Itm K H v (flatD v)
  | .non, _ => .dp .non rfl
  | .bl b, _ => .dp (.bl b) rfl
  | .int i, _ => .dp (.int i) rfl
  | .str x, _ => .dp (.str x) rfl
  | .ref _, h => by cases h
theorem flat_reads {h : Heap} {v : V} {u : Value} (f : flatV v = true) (r : RelV v u) : Reads h u (flatD v) [] := by
  cases v with
  | non =>
    cases (show u = Value.none from r)
    exact .none
  | bl b =>
    cases (show u = Value.bool b from r)
    exact .bool b
  | int i =>
    obtain ⟨t, rfl⟩ := r
    exact .int i t
  | str x =>
    obtain ⟨t, rfl⟩ := r
    exact .str x t
  | _ => cases f
theorem dict_reads {prog : Program} {w : World} {h : Heap} : ∀ {es : List DictEntry} {vs : List (Key × Value)} {kvs : List (Key × V)}, Pairs (mixKind prog w) es vs → KV kvs vs → (∀ p ∈ kvs, flatV p.2 = true) →
    ReadsAll h (es.map (·.key)) ((kvs.map fun p => (keyD p.1, flatD p.2)).map (·.1)) [] ∧ ReadsAll h (es.map (·.val)) ((kvs.map fun p => (keyD p.1, flatD p.2)).map (·.2)) []
  | _, _, _, .nil, .nil, _ => ⟨.nil, .nil⟩
  | _, _, _, .cons (e := en) hk hv rest, .cons (a := p) hp hq, hf => by
    obtain ⟨i1, i2⟩ := dict_reads (h := h) rest hq fun p hp => hf p (List.mem_cons_of_mem _ hp)
    obtain ⟨e1, e2⟩ := hp
    have f1 := hf p List.mem_cons_self
    have key : Reads h en.key (keyD p.1) [] := by
      rw [e1]
      rcases keyIs_shape hk with ⟨i, t, ek, ev⟩ | ⟨x, t, ek, ev⟩
      · rw [ek, ev]
        exact .int i t
      · rw [ek, ev]
        exact .str x t
    have val : Reads h en.val (flatD p.2) [] := by
      rw [hv]
      exact flat_reads f1 e2
    exact ⟨.cons (as := []) (bs := []) key i1, .cons (as := []) (bs := []) val i2⟩
section
variable {X : Cx} {pins : List (Addr × Obj)} {σ : L2.St} {H : Hp} {s : Shared}
theorem Itm.reads (I : Inv X pins σ H s) {v : V} {d : PyData} {u : Value} (i : Itm X.K H v d) (r : RelV v u) : ∃ as, Reads s.heap u d as ∧ (d.hasDict = true → sysModules ∉ as) := by
  cases i with
  | dp h n =>
    obtain ⟨as, rd⟩ := Dp.reads I d v u h r
    exact ⟨as, rd, PyData.noDict_hsm n⟩
  | @dct a kvs h q =>
    cases (show u = Value.ref a from r)
    obtain ⟨hz, hd, vs, rel, o, es, ep, ho, ⟨hc, _, _⟩, hdt, _, hp, _⟩ := dk_of I.hok h
    obtain ⟨r1, r2⟩ := dict_reads (h := s.heap) hp rel q
    refine ⟨a :: [] ++ [], .dict ho hc hdt r1 r2, fun _ z => ?_⟩
    have z' : sysModules = a := by simpa using z
    rw [z'] at hd
    simp at hd
theorem items_reprs (I : Inv X pins σ H s) : ∀ {vs : List V} {ds : List PyData} {us : List Value}, ItmAll X.K H vs ds → Vals vs us → PyData.showableAll ds = true → (∀ t ∈ PyData.shownAll ds, t.length ≤ sizeLine) →
    ∃ as bs, ReadsAll s.heap us ds as ∧ ReadAtMost s.heap (PyData.depthAll ds) bs ∧ ReprAllK X.prog X.w bs s.heap (PyData.depthAll ds) us (PyData.shownAll ds)
  | _, _, _, .nil, .nil, _, _ => ⟨[], [], .nil, fun _ h => (nomatch h), by simp only [PyData.shownAll]; exact .nil⟩
  | _, d :: ds, _, .cons h q, .cons r rr, hs, hz => by
    simp only [PyData.showableAll, Bool.and_eq_true] at hs
    simp only [PyData.shownAll, List.mem_cons] at hz
    obtain ⟨as, rd, sm⟩ := h.reads I r
    obtain ⟨b1, m1, k1⟩ := ReprK.of_reads (prog := X.prog) (w := X.w) rd hs.1 sm (hz _ (.inl rfl))
    obtain ⟨as2, b2, rd2, m2, k2⟩ := items_reprs I q rr hs.2 fun t ht => hz t (.inr ht)
    have e1 : d.depth ≤ PyData.depthAll (d :: ds) := by simp only [PyData.depthAll]; omega
    have e2 : PyData.depthAll ds ≤ PyData.depthAll (d :: ds) := by simp only [PyData.depthAll]; omega
    refine ⟨as ++ as2, b1 ++ b2, .cons rd rd2, (m1.mono e1).append (m2.mono e2), ?_⟩
    have w1 : ReprAllK X.prog X.w b1 s.heap d.depth [_] [d.shown] := .cons k1 .nil
    have w1' := ReprAllK.more_le (as' := b1 ++ b2) (fun b hb => List.mem_append_left _ hb) e1 w1
    simp only [PyData.shownAll]
    cases w1' with
    | cons k1' _ => exact .cons k1' (ReprAllK.more_le (fun b hb => List.mem_append_right _ hb) e2 k2)
end
/-- repr of a list that was told -/
def rReprT (K : PySem.W.Frag) : List V → Hp → VK → Prop := fun xs H Q => ∃ (a : Addr) (vs : List V) (ds : List PyData), xs = [.ref a] ∧ H a = some (.lst vs) ∧ ItmAll K H vs ds ∧ PyData.showableAll ds = true ∧ PyData.depthAll ds ≤ 40 ∧ (PyData.list ds).shown.length ≤ sizeLine ∧ Q (.str (PyData.list ds).shown) H
section
variable {X : Cx}
theorem call_reprT (hgd : X.A.guards = some []) (hu : X.A.units + 64 < cLine) : CallR X (.builtin "repr") (rReprT X.K) := by
  intro pins s σ H xs us Q I r h
  obtain ⟨a, vs, ds, rfl, ha, hi, hs, hdp, hz, q⟩ := h
  obtain ⟨u, rfl, ru⟩ := vals1 r
  cases (show u = Value.ref a from ru)
  obtain ⟨hl, its, n, rv, ho⟩ : vs.length ≤ sizeLine ∧ ∃ (its : List Value) (n : Nat), Vals vs its ∧ s.heap.get? a = some { cls := .type "list", data := .seq its.toArray n } := I.hok a _ ha
  have hz2 : (listText (PyData.shownAll ds)).length ≤ sizeLine := by simpa only [PyData.shown] using hz
  obtain ⟨as, bs, rd, hm, hk⟩ := items_reprs I hi rv hs fun t ht => Nat.le_trans (listText_mem_le ht) hz2
  have fin : ∀ h' t tk, (∀ b o, s.heap.get? b = some o → h'.get? b = some o) → EP X pins σ Q (.str (PyData.list ds).shown t) { s with heap := h', toks := tk } := fun h' t tk kp => ⟨.str (PyData.list ds).shown, H, I.kept kp, ⟨t, rfl⟩, q⟩
  have whole : Reads s.heap (.ref a) (.list ds) (a :: as) := .list ho rfl rfl (by simpa using rd)
  have na : a ∉ bs := not_mem_of_deeper whole (by simp only [PyData.depth]; omega) hm
  refine call_repr_slot (by omega) ⟨_, ho, rfl⟩ F.slot_list_repr.toG ?_
  cases rv with
  | nil =>
    cases hi
    simp only [PyData.shown, PyData.shownAll, listText_nil] at fin
    exact call_list_repr_empty ⟨_, ho, rfl⟩ ho rfl ⟨_, _, rfl, fin s.heap _ _ fun _ _ z => z⟩
  | cons r1 r2 =>
    simp only [PyData.shown] at fin
    exact call_list_reprK ho rfl rfl na (by simpa using hk.length_eq) (fun i y e => hk.item i y (by simpa using e)) hgd (fun b _ => Clear.nil b) (by show X.A.units + 1 + (PyData.depthAll ds + 1) < cLine; omega) (fun _ _ z => z) (fun h' t tk kp => ⟨_, _, rfl, fin h' t tk kp⟩) hz2
end
/-! data stays -/
mutual
theorem dp_ext {K : PySem.W.Frag} {H H' : Hp} (s : ∀ b o, H b = some o → (∀ ps, o ≠ .tbl ps) → H' b = some o) : ∀ {v : V} {d : PyData}, Dp K H v d → Dp K H' v d
  | _, _, .non => .non
  | _, _, .bl b => .bl b
  | _, _, .int i => .int i
  | _, _, .str x => .str x
  | _, _, .lst h q => .lst (by
      rcases h with (h | ⟨o, h⟩) | h
      · exact .inl (.inl (s _ _ h (fun _ z => by cases z)))
      · exact .inl (.inr ⟨o, s _ _ h (fun _ z => by cases z)⟩)
      · exact .inr h) (dp_extA s q)
  | _, _, .tup h q => .tup (by
      rcases h with (h | ⟨o, h⟩) | h
      · exact .inl (.inl (s _ _ h (fun _ z => by cases z)))
      · exact .inl (.inr ⟨o, s _ _ h (fun _ z => by cases z)⟩)
      · exact .inr h) (dp_extA s q)
theorem dp_extA {K : PySem.W.Frag} {H H' : Hp} (s : ∀ b o, H b = some o → (∀ ps, o ≠ .tbl ps) → H' b = some o) : ∀ {vs : List V} {ds : List PyData}, DpAll K H vs ds → DpAll K H' vs ds
  | _, _, .nil => .nil
  | _, _, .cons h q => .cons (dp_ext s h) (dp_extA s q)
end
theorem Itm.ext {K : PySem.W.Frag} {H H' : Hp} {v : V} {d : PyData} (i : Itm K H v d) (s : ∀ b o, H b = some o → (∀ ps, o ≠ .tbl ps) → H' b = some o) : Itm K H' v d := by
  cases i with
  | dp h n => exact .dp (dp_ext s h) n
  | dct h q => exact .dct (s _ _ h (fun _ z => by cases z)) q
/-! ### a maker of lambdas whose callees say repr -/
section
variable {P : Program} {w : World} {K : PySem.W.Frag} {mg : Str → Option Value} {base : Heap}
theorem FnG.mkC {x qual : Str} {st : Stmt} {f c : Addr} {fd : FuncData} {N ps : List Str} {k : Nat} {sp : Sp} (F : FunC K x qual st f fd c) (S : FnScope N ps (defScope st)) (len : ∀ vs H Q E, sp vs H Q E → vs.length = ps.length)
    (go : ∀ (A : Around) (outer : List Env) (s : Shared) (H : Hp) (vs : List V) (Q : VK) (E : XK), A.guards = some [] → Room k (A.deeper (envOfC qual (defScope st) s.heap.objs.size f (.ref c))) → sp vs H Q E →
      ∃ t, PSs (cxOf CX0 P w K mg base N qual (defScope st) f (.ref c) A outer s H E).nox (defBody st) t ∧ t { nx := fun _ H' => Q .non H', rt := Q } (start N vs) H) : FnG P w K mg base (k + 1) f fd ps sp := by
  obtain ⟨oc, od, kV, doc, pm, an, ct, osl, rfl, lk, hcd⟩ := F.ex
  refine ⟨len, fun A outer s H args us vs Q E hg hr e0 hb r hsp => ?_⟩
  have hlen := len _ _ _ _ hsp
  have inS : K.In s.heap := e0.mod.kin.keeps fun b o e => (e0.bs b o e).1
  have limS : s.heap.NoLimit := e0.mod.nolimit.keeps fun b o e => (e0.bs b o e).1
  have kinds : ∀ y ∈ ps.zip us, (defScope st).names.lookup y.1 = some .local ∨ ((defScope st).names.lookup y.1 = some .cell ∧ ((cellsFrom (s.heap.objs.size + 1) (defScope st).names []).lookup y.1).isSome = true) := by
    rintro ⟨n, v⟩ hy
    exact (S.par n (List.of_mem_zip hy).1).imp id fun q => ⟨q, PySem.W.cellsFrom_some _ _ _ (.inl q)⟩
  refine codeAny_call_function hr.depth (inS _ _ lk) rfl S.co S.gen rfl (PySem.W.codeRec_of inS hcd) (hb _ _ _ _ ?_)
  refine wpAny_newFunctionEnv_cells S.kind kinds fun env henv s1 x => ?_
  subst henv
  refine ⟨limS.keeps x.toInCall.keep, codeAny_func ?_⟩
  obtain ⟨t, ht, hq⟩ := go A outer s H vs Q E hg (hr.deeper _) hsp
  have I : Inv (cxOf CX0 P w K mg base N qual (defScope st) f (.ref c) A outer s H E) [] (start N vs) H s1 := inv_start S hr.hd e0 hlen r x
  refine wpAny_mono (ht.nox.run [] s1 (start N vs) H _ I hq) (fun fl s' hs => ?_) fun e s' hs => hs
  cases fl with
  | ret u =>
    obtain ⟨v, σ', H', J, rv, q⟩ := hs
    exact ⟨v, H', J.os, J.bare, J.base, J.hok, rv, q⟩
  | next =>
    obtain ⟨σ', H', J, q⟩ := hs
    exact ⟨V.non, H', J.os, J.bare, J.base, J.hok, rfl, q⟩
  | brk => exact hs.elim fun _ z => z.elim fun _ y => y.2.elim
  | cont => exact hs.elim fun _ z => z.elim fun _ y => y.2.elim
end
/-! ### classes made with keywords, whose making may raise -/
section
variable (P : Program) (w : World) (K : PySem.W.Frag) (mg : Str → Option Value) (base : Heap)
def MakDE (k : Nat) (x : Str) (C : Addr) (dvs : List V) (sp : Sp) : Prop := ∃ f fd ps ds, FnOk P w K mg base (L2.CX P w) k f fd ps sp ∧ Mk K C f ∧ mg x = some (.ref C) ∧ Binds K fd ps ds ∧ Vals dvs ds
def MakKE (k : Nat) (x : Str) (C : Addr) (ks : List Str) (gV : List V → List V → List V) (sp : Sp) : Prop := ∃ f fd ps g, FnOk P w K mg base (L2.CX P w) k f fd ps sp ∧ Mk K C f ∧ mg x = some (.ref C) ∧ KBn K fd ps 1 ks g gV
def MakNE (k : Nat) (x : Str) (C : Addr) (n : Nat) (ks : List Str) (gV : List V → List V → List V) (sp : Sp) : Prop := ∃ f fd ps g, FnOk P w K mg base (L2.CX P w) k f fd ps sp ∧ Mk K C f ∧ mg x = some (.ref C) ∧ KBn K fd ps (n + 1) ks g gV
end
section
variable {X : Cx} {k j n : Nat} {x : Str} {C : Addr} {sp : Sp} {dvs : List V} {e : Expr} {es : List Expr} {kws : List Keyword} {ks : List Str} {gV : List V → List V → List V} {t tk : TA} {p pos : Pos} {E : XK}
theorem pe_nDE (c : MakDE X.prog X.w X.K X.mg X.base k x C dvs sp) (px : Passes (L2.CX X.prog X.w) X E) (hr : Room j X.A) (hk : k + 1 ≤ j) (hg : Gl X x) (ha : PA X (e :: es) t) (hdb : (x == ("__debug__" : Str)) = false := by decide)
    (he : starEach (e :: es) X.env = (false, eval e X.env) :: starEach es X.env := by rfl) (hpl : (backTo pos (starEach es X.env)).any (·.1) = false := by rfl) : PE X (.Call (.Name x p) (e :: es) [] pos) (tMake C sp dvs E t) := by
  obtain ⟨f, fd, ps, ds, F, M, g, b, v⟩ := c
  exact pe_make M F (hr.mono hk) hg g b v px ha hdb he hpl
theorem pe_nKE (c : MakKE X.prog X.w X.K X.mg X.base k x C ks gV sp) (px : Passes (L2.CX X.prog X.w) X E) (hr : Room j X.A) (hk : k + 1 ≤ j) (hg : Gl X x) (hkw : PK X kws tk)
    (hall : (backToKw pos (keywordEach kws X.env)).all (·.1.isSome) = true := by rfl) (hks : (backToKw pos (keywordEach kws X.env)).filterMap (·.1) = ks := by rfl) (hdb : (x == ("__debug__" : Str)) = false := by decide)
    (hpl : ((backTo pos (starEach [] X.env)).any (·.1) || (backToKw pos (keywordEach kws X.env)).any (·.1.isNone)) = false := by rfl) :
    PE X (.Call (.Name x p) [] kws pos) (tMakeK C 0 ks.length sp gV E tNil tk) := by
  obtain ⟨f, fd, ps, gg, F, M, g, b⟩ := c
  exact pe_makeK0 M F (hr.mono hk) hg g b px hkw hall hks hdb hpl
theorem pe_nNE (c : MakNE X.prog X.w X.K X.mg X.base k x C n ks gV sp) (px : Passes (L2.CX X.prog X.w) X E) (hr : Room j X.A) (hk : k + 1 ≤ j) (hg : Gl X x) (ha : PA X (e :: es) t) (hkw : PK X kws tk)
    (h1 : (backToKw pos (keywordEach kws X.env)).all (·.1.isSome) = true := by rfl) (h2 : (backToKw pos (keywordEach kws X.env)).filterMap (·.1) = ks := by rfl) (h3 : (x == ("__debug__" : Str)) = false := by decide)
    (h4 : starEach (e :: es) X.env = (false, eval e X.env) :: starEach es X.env := by rfl)
    (h5 : ((backTo pos (starEach (e :: es) X.env)).any (·.1) || (backToKw pos (keywordEach kws X.env)).any (·.1.isNone)) = false := by rfl) :
    PE X (.Call (.Name x p) (e :: es) kws pos) (tMakeN C n ks.length sp gV E t tk) := by
  obtain ⟨f, fd, ps, g, F, M, m, b⟩ := c
  exact pe_makeN M F (hr.mono hk) hg m b px ha hkw h1 h2 h3 h4 h5
end
end UL
set_option Elab.async false
set_option linter.all false
set_option maxRecDepth 100000
set_option maxHeartbeats 4000000
/-! ### the law's own call: no repr is under way, a maker's tables -/
namespace UL
open PySem PySem.Spec PyProof.Rows L2 LamX
section
variable {P : Program} {w : World} {K : PySem.W.Frag} {mg mb : Str → Option Value} {k : Nat} {fa a : Addr} {cs : List (Addr × Addr)} {fd : FuncData} {x : Str} {sp : Sp} {s₁ : Shared} {vs : List Value} {ns : List Int}
/-- what may stand at b when the law is called -/
def AtFirst (K : PySem.W.Frag) (h : Heap) (a : Addr) (vs : List Value) (cs : List (Addr × Addr)) (H : Hp) (b : Addr) : Prop :=
  H b = none ∨ (b = a ∧ K.lookup a = none ∧ ∃ xs, H b = some (.frz { cls := .type "list", data := .seq vs.toArray } (.lst xs))) ∨ (∃ p ∈ cs, b = p.2 ∧ H b = some (.tbl #[]))
theorem call_fromS {H : Hp} (KX : K.In s₁.heap) (hns : s₁.heap.Ns mainGlobals mg) (hb : s₁.heap.Ns builtinsNs mb) (hbb : ∀ x : Str, x ≠ "__name__" → mb x = bootBuiltins x) (hlim : s₁.heap.NoLimit) (hg : s₁.gens = #[])
    (hT : ∀ p ∈ cs, s₁.heap.get? p.2 = some { cls := .none, data := .fields #[] }) (nT : ∀ p ∈ cs, K.lookup p.2 = none) (cP : ∀ p ∈ cs, PySem.W.codeHdIn K p.1 p.2 = true)
    (hbm : ∃ (bm : Addr) (ob : Obj), mg "__builtins__" = some (.ref bm) ∧ bm ≠ builtinsNs ∧ s₁.heap.get? bm = some ob ∧ ob.cls = .type "module" ∧ ob.dict = some builtinsNs ∧ ob.data = .plain)
    (ha : s₁.heap.get? a = some { cls := .type "list", data := .seq vs.toArray }) (hr : Room k callerA)
    (F : ∀ base : Heap, K.In base → base.Ns mainGlobals mg → (∀ p ∈ cs, TabB base mg p.1 p.2) → FnG P w K mg base k fa fd [x] sp) (hbind : ∀ (s : Shared) (u : Value), BindsTo s fd ⟨[u], []⟩ [(x, u)])
    (only : ∀ b, AtFirst K s₁.heap a vs cs H b) (hok : HOk P w H s₁.heap) (hsp : sp [.ref a] H (fun v _ => v = .bl true) fun _ _ _ => False) :
    codeAny (model P w) callerA (.call (.ref fa) ⟨[.ref a], []⟩) (fun r s' => r = .ok (.ret (.bool true)) ∧ OldK s₁.heap s'.heap ∧ s'.os = s₁.os ∧ AllBare s'.gens) s₁ := by
  have stays : ∀ {b : Addr} {o : Obj}, s₁.heap.get? b = some o → H b = none → (hidT s₁.heap H).get? b = some o := fun e n => hidT_get e n
  have free : ∀ {b : Addr} {o : Obj}, s₁.heap.get? b = some o → (∀ n, o.data ≠ .seq vs.toArray n) → o.data ≠ .fields #[] → H b = none := fun {b o} e h1 h2 => by
    rcases only b with z | ⟨z, _, _⟩ | ⟨p, hp, z, _⟩
    · exact z
    · rw [z, ha] at e
      cases e
      exact (h1 _ rfl).elim
    · rw [z, hT p hp] at e
      cases e
      exact (h2 rfl).elim
  have hKb : K.In (hidT s₁.heap H) := fun b o e => stays (KX b o e) (by
    rcases only b with z | ⟨z, y, _⟩ | ⟨p, hp, z, _⟩
    · exact z
    · rw [z, y] at e
      cases e
    · rw [z, nT p hp] at e
      cases e)
  have nsK : ∀ {b : Addr} {m : Str → Option Value}, s₁.heap.Ns b m → (hidT s₁.heap H).Ns b m := fun {b m} ⟨o, es, ep, e, d, r⟩ => ⟨o, es, ep, stays e (free e (fun n z => by rw [d] at z; cases z) (fun z => by rw [d] at z; cases z)), d, r⟩
  have nG := nsK hns
  have hM : Mod K mg (hidT s₁.heap H) := ⟨hKb, nG, ⟨mb, nsK hb, hbb⟩, let ⟨mc, h1, h2⟩ := hlim; ⟨mc, nsK h1, h2⟩⟩
  have TB : ∀ p ∈ cs, TabB (hidT s₁.heap H) mg p.1 p.2 := fun p hp => by
    obtain ⟨bm, ob, q1, q2, q3, q4, q5, q6⟩ := hbm
    have g1 : bm ≠ mainGlobals := fun z => by
      obtain ⟨o, es, ep, e, hd, _⟩ := id hns
      rw [z, e] at q3
      cases q3
      rw [hd] at q6
      cases q6
    have g2 : bm ≠ p.2 := fun z => by
      rw [z, hT p hp] at q3
      cases q3
      cases q6
    refine ⟨PySem.W.codeHd_of_K hKb (cP p hp), ⟨bm, ob, q1, q2, g1, g2, stays q3 (free q3 (fun n z => by rw [q6] at z; cases z) (fun z => by rw [q6] at z; cases z)), q4, q5, q6⟩, fun z => ?_⟩
    obtain ⟨o, es, ep, e, hd, _⟩ := id hns
    rw [z, hT p hp] at e
    cases e
    cases hd
  have e0 : Env0 P w K mg (hidT s₁.heap H) callerA [] s₁ H := ⟨rfl, hM, fun b o e => of_hidT e, Nat.le_of_eq (hidT_size _ _), trivial, fun b z => (nomatch (show b ∈ ([] : List Addr) from z)), hok, .of_eq hg⟩
  refine codeAny_mono ((F _ hKb nG TB).run callerA [] s₁ H ⟨[.ref a], []⟩ [.ref a] [.ref a] _ _ rfl hr e0 (hbind s₁ (.ref a)) (.cons rfl .nil) hsp) fun r s' h => ?_
  match r, h with
  | .ok (.ret u), ⟨v, H', os, bare, un, hok', r', q⟩ =>
    cases (show v = .bl true from q)
    cases (show u = Value.bool true from r')
    have frz : ∀ {b : Addr} {o ob : Obj} {z : HO}, H b = some (.frz ob z) → s₁.heap.get? b = some o → s'.heap.get? b = some o := fun {b o ob z} hz e => by
      obtain ⟨e1, _⟩ := hok b _ hz
      obtain ⟨e2, _⟩ := hok' b _ (un.frzs b ob _ hz)
      rw [e] at e1
      cases e1
      exact e2
    have grown : ∀ p ∈ cs, H p.2 = some (.tbl #[]) → ∃ more : Array Value, s'.heap.get? p.2 = some { cls := .none, data := .fields more } := fun p hp e => by
      obtain ⟨more, z⟩ := un.tbls p.2 #[] e
      exact ⟨_, hok' p.2 _ z⟩
    refine ⟨rfl, ⟨fun b o e => ?_, fun b o e => ?_⟩, os, bare⟩
    · rcases only b with z | ⟨_, _, xs, z⟩ | ⟨p, hp, y, z⟩
      · exact .inl (un.keep b o e z (fun y => nomatch (show b ∈ ([] : List Addr) from y)) (fun y => nomatch (show b ∈ ([] : List Addr) from y)))
      · exact .inl (frz z e)
      · subst y
        obtain ⟨more, hm⟩ := grown p hp z
        rw [hT p hp] at e
        cases e
        exact .inr (.inl ⟨((PySem.W.codeHd_of_K KX (cP p hp)).tab (hT p hp)).isCodeTable, rfl, #[], more, rfl, by rw [Array.empty_append]; exact hm⟩)
    · rcases only b with z | ⟨_, _, xs, z⟩ | ⟨p, hp, y, z⟩
      · exact ⟨o, un.keep b o e z (fun y => nomatch (show b ∈ ([] : List Addr) from y)) (fun y => nomatch (show b ∈ ([] : List Addr) from y))⟩
      · exact ⟨o, frz z e⟩
      · subst y
        obtain ⟨more, hm⟩ := grown p hp z
        exact ⟨_, hm⟩
theorem law_callS (KX : K.In s₁.heap) (hns : s₁.heap.Ns mainGlobals mg) (hb : s₁.heap.Ns builtinsNs mb) (hbb : ∀ x : Str, x ≠ "__name__" → mb x = bootBuiltins x) (hlim : s₁.heap.NoLimit) (hg : s₁.gens = #[])
    (hT : ∀ p ∈ cs, s₁.heap.get? p.2 = some { cls := .none, data := .fields #[] }) (nT : ∀ p ∈ cs, K.lookup p.2 = none) (cP : ∀ p ∈ cs, PySem.W.codeHdIn K p.1 p.2 = true)
    (hbm : ∃ (bm : Addr) (ob : Obj), mg "__builtins__" = some (.ref bm) ∧ bm ≠ builtinsNs ∧ s₁.heap.get? bm = some ob ∧ ob.cls = .type "module" ∧ ob.dict = some builtinsNs ∧ ob.data = .plain)
    (ha : s₁.heap.get? a = some { cls := .type "list", data := .seq vs.toArray }) (hi : IntsAre vs ns) (hl : ns.length ≤ sizeLine) (hr : Room k callerA)
    (F : ∀ base : Heap, K.In base → base.Ns mainGlobals mg → (∀ p ∈ cs, TabB base mg p.1 p.2) → FnG P w K mg base k fa fd [x] sp) (hbind : ∀ (s : Shared) (u : Value), BindsTo s fd ⟨[u], []⟩ [(x, u)])
    (hsp : ∀ H : Hp, (∀ p ∈ cs, H p.2 = some (.tbl #[])) → SqL K H a (ns.map V.int) → sp [.ref a] H (fun v _ => v = .bl true) fun _ _ _ => False) :
    codeAny (model P w) callerA (.call (.ref fa) ⟨[.ref a], []⟩) (fun r s' => r = .ok (.ret (.bool true)) ∧ OldK s₁.heap s'.heap ∧ s'.os = s₁.os ∧ AllBare s'.gens) s₁ := by
  have rv := vals_ints hi
  have lenV := hi.length
  have aT : ∀ p ∈ cs, p.2 ≠ a := fun p hp z => by
    have q := hT p hp
    rw [z, ha] at q
    cases q
  let H0 : Hp := fun b => if b ∈ cs.map (·.2) then some (.tbl #[]) else if b = a ∧ K.lookup a = none then some (.frz { cls := .type "list", data := .seq vs.toArray } (.lst (ns.map V.int))) else none
  have eT : ∀ p ∈ cs, H0 p.2 = some (.tbl #[]) := fun p hp => if_pos (List.mem_map.mpr ⟨p, hp, rfl⟩)
  have nT' : ∀ b, b ∉ cs.map (·.2) → H0 b = if b = a ∧ K.lookup a = none then some (.frz { cls := .type "list", data := .seq vs.toArray } (.lst (ns.map V.int))) else none := fun b hb => if_neg hb
  have aN : a ∉ cs.map (·.2) := fun z => by
    obtain ⟨p, hp, e⟩ := List.mem_map.mp z
    exact aT p hp e
  have oA : ∀ b u, H0 b = some u → AtFirst K s₁.heap a vs cs H0 b ∧ ObjOk P w H0 s₁.heap b u := fun b u e => by
    by_cases c : b ∈ cs.map (·.2)
    · obtain ⟨p, hp, ep⟩ := List.mem_map.mp c
      subst ep
      have e' := eT p hp
      rw [e'] at e
      cases e
      exact ⟨.inr (.inr ⟨p, hp, rfl, e'⟩), hT p hp⟩
    · have e' := nT' b c
      by_cases d : b = a ∧ K.lookup a = none
      · rw [if_pos d] at e'
        rw [e'] at e
        cases e
        obtain ⟨rfl, d2⟩ := d
        exact ⟨.inr (.inl ⟨rfl, d2, _, e'⟩), ha, by rw [List.length_map]; exact hl, vs, _, rv, ha⟩
      · rw [if_neg d] at e'
        rw [e'] at e
        cases e
  refine call_fromS (H := H0) KX hns hb hbb hlim hg hT nT cP hbm ha hr F hbind (fun b => ?_) (fun b u e => (oA b u e).2) (hsp H0 eT ?_)
  · cases e : H0 b with
    | none => exact .inl e
    | some u => exact (oA b u e).1
  · cases hk : K.lookup a with
    | some o =>
      obtain rfl : _ = o := Option.some.inj (ha.symm.trans (KX a o hk))
      exact .inr ⟨_, vs.toArray, _, hk, rfl, rfl, rfl, by rw [List.size_toArray, lenV]; exact hl, by simpa using rv⟩
    | none =>
      have e' := nT' a aN
      rw [if_pos ⟨rfl, hk⟩] at e'
      exact .inl (.inr ⟨_, e'⟩)
end
/-- what is known of the law's promise at the head's heap -/
def LawAtG (l : PySem.W.OpenLaw) (w : World) (K : PySem.W.Frag) (k n : Nat) (x : Str) (mg : Str → Option Value) (fa : Addr) (h : Heap) : Prop :=
  ∃ (fd : FuncData) (cs : List (Addr × Addr)) (sp : Sp), (∀ p ∈ cs, h.get? p.2 = some { cls := .none, data := .fields #[] }) ∧ (∀ p ∈ cs, K.lookup p.2 = none) ∧ (∀ p ∈ cs, PySem.W.codeHdIn K p.1 p.2 = true) ∧
    (∀ (s : Shared) (u : Value), BindsTo s fd ⟨[u], []⟩ [(x, u)]) ∧
    (∀ (H : Hp) (a : Addr) (ns : List Int), ns.length ≤ n → (∀ p ∈ cs, H p.2 = some (.tbl #[])) → SqL K H a (ns.map V.int) → sp [.ref a] H (fun v _ => v = .bl true) fun _ _ _ => False) ∧
    ∀ base : Heap, K.In base → base.Ns mainGlobals mg → (∀ p ∈ cs, TabB base mg p.1 p.2) → FnG l.prog w K mg base k fa fd [x] sp
theorem walkGS {l : PySem.W.OpenLaw} {n k : Nat} {q : Program} {loose : List Str} {XP : (Str → Option Value) → Heap → Prop} {YP : World → Heap → Prop} {d : DefRec} {K : Params → PySem.W.Frag} {x : Str}
    (hn : l.most = some n) (hn2 : n ≤ sizeLine) (hdf : d.params.defaults = []) (hr : Room k callerA) (hY : ∀ (w : World) (h : Heap), YP w h → (K w.params).In h)
    (F : ∀ (w : World) (mg : Str → Option Value) (fa : Addr) (h : Heap), YP w h → (K w.params).In h → h.Ns mainGlobals mg → mg d.name = some (.ref fa) → LawAtG l w (K w.params) k n x mg fa h) :
    PySem.W.WalkO q loose XP YP l.row.toRowW d [] (fun f vs => PySem.call f vs) := by
  refine Att.attach_call hn hdf fun w s₀ s₁ mg mb fa o pm cd doc a vs ns G Y _ _ _ hmg hobj hints hlen hg => ?_
  have KX := hY w _ Y
  obtain ⟨fd, cs, sp, hT, nT, cP, hb, hsp, hF⟩ := F w mg fa _ Y KX G.T.g hmg
  exact law_callS KX G.T.g G.T.b G.T.builtins G.T.nolimit hg hT nT cP G.T.bmain hobj hints (Nat.le_trans hlen hn2) hr hF hb fun H h1 h2 => hsp H a ns hlen h1 h2
end UL
set_option Elab.async false
set_option linter.all false
set_option maxRecDepth 100000
set_option maxHeartbeats 4000000
/-! ### isinstance(e, C) of a caught error, which it is -/
namespace UL
open PySem PySem.Spec PyProof.Rows L2
section
variable {prog : Program} {w : World} {A : Around} {E : Value → Shared → Prop} {s : Shared} {K : PySem.W.Frag} {x t c : Value} {Q : Value → Shared → Prop}
theorem isi_true (X : K.In s.heap) (LT : PySem.W.Looks (model prog w) s.heap (typeOf x) t) (e : PySem.W.kitCls K t c = some true) (ne : (t == c) = false) (hx : x ≠ .builtin "__main__.__loader__#opaque") (h : ∀ tk, Q (.bool true) { s with toks := tk }) :
    wpAny (model prog w) A (call (.builtin "isinstance") [x, c]) Q E s := by
  obtain ⟨hty, his, hsub⟩ := PySem.W.kit_cls (M := model prog w) X e
  have LI : PySem.W.Looks (model prog w) s.heap (isInstance x c) true := LT.andThen hsub
  obtain ⟨hp, g, d, tt, os⟩ := s
  refine call_isinstance_of ?_ hx
  unfold Builtin.«isinstance.nested»
  refine wpAny_bind (LT.at ?_)
  rw [ne, if_neg Bool.false_ne_true]; refine wpAny_bind (hty.at ?_)
  rw [if_pos (by decide)]; k_delta "plainIsInstance"
  refine wpAny_bind (wpAny_bind (his.at ?_)); simp only [Bool.not_true, Bool.false_eq_true, if_false]
  refine wpAny_bind (LI.at ?_); first
    | exact wpAny_pure (wpAny_pure (h tt))
    | (simp only [if_true]; first | exact wpAny_pure (wpAny_pure (h tt)) | exact wpAny_pure (h tt) | exact wpAny_bind (wpAny_pure (wpAny_pure (h tt))))
end
/-- isinstance(e, c), e the error that the suite holds, c a class above its own -/
def rIsT (K : PySem.W.Frag) (a : Addr) (cls : Value) : List V → Hp → VK → Prop := fun xs H Q => ∃ (c : V) (cv : Value), xs = [.ref a, c] ∧ (∀ u, RelV c u → u = cv) ∧ PySem.W.kitCls K cls cv = some true ∧ (cls == cv) = false ∧ Q (.bl true) H
theorem call_isT {X : Cx} {a : Addr} {cls : Value} {d : Option Addr} {oe : Obj} {pn : List (Addr × Obj)} (hz : Zc cls d oe) : CallR (X.suite a ((a, oe) :: pn)) (.builtin "isinstance") (rIsT X.K a cls) := by
  intro pins s σ H xs us Q I r h
  obtain ⟨c, cv, rfl, hcv, e, ne, q⟩ := h
  obtain ⟨u1, u2, rfl, r1, r2⟩ := vals2 r
  cases (show u1 = Value.ref a from r1)
  obtain rfl := hcv _ r2
  obtain ⟨hget, _⟩ := I.pin (a, oe) (List.mem_append.mpr (.inl List.mem_cons_self))
  have LT : PySem.W.Looks (model X.prog X.w) s.heap (typeOf (.ref a)) cls := fun A Q E s' k q => wpAny_typeOf_ref (k _ _ hget) (by rw [hz.1]; exact q)
  exact isi_true I.kIn LT e ne (fun z => nomatch z) fun tk => ⟨.bl true, H, I.tok tk, rfl, q⟩
end UL
set_option Elab.async false
set_option linter.all false
set_option maxRecDepth 100000
set_option maxHeartbeats 4000000
/-! ### values of any kind; menus; what a told list fits in; an own + beside anything; lists beside an empty one -/
namespace UL
open PySem PySem.Spec PyProof.Rows L2 LamX
/-! values of any kind: what they are -/
inductive Vd (K : PySem.W.Frag) (H : Hp) : V → PyData → Prop
  | non : Vd K H .non .none
  | bl (b : Bool) : Vd K H (.bl b) (.bool b)
  | int (i : Int) : Vd K H (.int i) (.int i)
  | str (x : Str) : Vd K H (.str x) (.str x)
  | lst {a : Addr} {ds : List PyData} (h : ∃ xs, H a = some (.lst xs)) : Vd K H (.ref a) (.list ds)
  | tup {a : Addr} {ds : List PyData} (h : ∃ xs, H a = some (.tup xs)) : Vd K H (.ref a) (.tuple ds)
  | dct {a : Addr} {ds : List (PyData × PyData)} (h : ∃ kvs, H a = some (.dK kvs)) : Vd K H (.ref a) (.dict ds)
/-- the type's name -/
def tyN : PyData → String
  | .none => "NoneType"
  | .bool _ => "bool"
  | .int _ => "int"
  | .str _ => "str"
  | .list _ => "list"
  | .tuple _ => "tuple"
  | .dict _ => "dict"
abbrev T7 : List String := ["NoneType", "tuple", "str", "int", "list", "bool", "dict"]
theorem tyN_mem (d : PyData) : tyN d ∈ T7 := by cases d <;> simp [tyN, T7]
theorem Vd.ty {K : PySem.W.Frag} {H : Hp} {v : V} {d : PyData} (h : Vd K H v d) : TyX K H v (.type (tyN d)) := by
  cases h with
  | non => exact .base .non
  | bl b => exact .base (.bl b)
  | int i => exact .base (.int i)
  | str x => exact .base (.str x)
  | lst h =>
    obtain ⟨_, h⟩ := h
    exact .base (.lst h)
  | tup h =>
    obtain ⟨_, h⟩ := h
    exact .base (.tup h)
  | dct h =>
    obtain ⟨_, h⟩ := h
    exact .base (.dK h)
theorem Vd.ext {K : PySem.W.Frag} {H H' : Hp} {v : V} {d : PyData} (h : Vd K H v d) (s : ExtN H H') : Vd K H' v d := by
  cases h with
  | non => exact .non
  | bl b => exact .bl b
  | int i => exact .int i
  | str x => exact .str x
  | lst h =>
    obtain ⟨_, h⟩ := h
    exact .lst ⟨_, s _ _ h (by simp)⟩
  | tup h =>
    obtain ⟨_, h⟩ := h
    exact .tup ⟨_, s _ _ h (by simp)⟩
  | dct h =>
    obtain ⟨_, h⟩ := h
    exact .dct ⟨_, s _ _ h (by simp)⟩
theorem Vd.same {K : PySem.W.Frag} {H H' : Hp} {v : V} {d : PyData} (h : Vd K H v d) (s : L2.Same H H') : Vd K H' v d := h.ext (ExtN.of s)
def isS : PyData → Bool
  | .str _ => true
  | _ => false
def isB : PyData → Bool
  | .bool _ => true
  | _ => false
def isI : PyData → Bool
  | .int _ => true
  | _ => false
theorem kit_str {K : PySem.W.Frag} (d : PyData) : PySem.W.kitOne K (.type (tyN d)) (.type "str") = some (isS d) := by cases d <;> simp only [tyN, isS] <;> exact kit_ty (by decide +kernel)
theorem kit_bool {K : PySem.W.Frag} (d : PyData) : PySem.W.kitOne K (.type (tyN d)) (.type "bool") = some (isB d) := by cases d <;> simp only [tyN, isB] <;> exact kit_ty (by decide +kernel)
theorem kit_int {K : PySem.W.Frag} (d : PyData) : PySem.W.kitOne K (.type (tyN d)) (.type "int") = some (isI d || isB d) := by cases d <;> simp only [tyN, isI, isB] <;> exact kit_ty (by decide +kernel)
theorem isI_at {K : PySem.W.Frag} {H : Hp} {v : V} {d : PyData} (h : Vd K H v d) (e : isI d = true) : ∃ i, v = .int i ∧ d = .int i := by
  cases h <;> first | exact ⟨_, rfl, rfl⟩ | cases e
theorem isS_at {K : PySem.W.Frag} {H : Hp} {v : V} {d : PyData} (h : Vd K H v d) (e : isS d = true) : ∃ x, v = .str x ∧ d = .str x := by
  cases h <;> first | exact ⟨_, rfl, rfl⟩ | cases e
theorem isIB (d : PyData) : ((isI d || isB d) && !isB d) = isI d := by cases d <;> rfl
/-! values from a menu -/
inductive Mv (p : Addr) (H : Hp) : V → PyData → Prop
  | flat {v : V} (h : flatV v = true) : Mv p H v (flatD v)
  | lst {a : Addr} {xs : List V} (h : H a = some (.lst xs)) (n : a ≠ p) (f : xs.all flatV = true) : Mv p H (.ref a) (.list (xs.map flatD))
  | tup {a : Addr} {xs : List V} (h : H a = some (.tup xs)) (f : xs.all flatV = true) : Mv p H (.ref a) (.tuple (xs.map flatD))
  | dct {a : Addr} {kvs : List (Key × V)} (h : H a = some (.dK kvs)) (q : ∀ e ∈ kvs, flatV e.2 = true) : Mv p H (.ref a) (.dict (kvs.map fun e => (keyD e.1, flatD e.2)))
theorem Mv.stay {p : Addr} {H H' : Hp} {v : V} {d : PyData} (m : Mv p H v d) (hp : Pot H p) (s : Stay p H H') : Mv p H' v d := by
  obtain ⟨x, y, hp, _⟩ := hp
  cases m with
  | flat h => exact .flat h
  | lst h n f => exact .lst (s _ _ n h) n f
  | tup h f => exact .tup (s _ _ (ne_of h hp (by intro z; cases z)) h) f
  | dct h q => exact .dct (s _ _ (ne_of h hp (by intro z; cases z)) h) q
theorem Mv.ext {p : Addr} {H H' : Hp} {v : V} {d : PyData} (m : Mv p H v d) (s : ExtN H H') : Mv p H' v d := by
  cases m with
  | flat h => exact .flat h
  | lst h n f => exact .lst (s _ _ h (by simp)) n f
  | tup h f => exact .tup (s _ _ h (by simp)) f
  | dct h q => exact .dct (s _ _ h (by simp)) q
theorem Mv.same {p : Addr} {H H' : Hp} {v : V} {d : PyData} (m : Mv p H v d) (s : L2.Same H H') : Mv p H' v d := m.ext (ExtN.of s)
/-- a list that holds something not plain is written anew -/
theorem Mv.grow {p La : Addr} {H : Hp} {v : V} {d : PyData} {xs : List V} {o : HO} (m : Mv p H v d) (h : H La = some (.lst xs)) (nf : xs.all flatV = false) : Mv p (upd H La o) v d := by
  cases m with
  | flat h => exact .flat h
  | @lst a ys hx n f =>
    have na : a ≠ La := fun z => by
      rw [z, h] at hx
      cases hx
      rw [f] at nf
      cases nf
    exact .lst ((upd_ne na).trans hx) n f
  | @tup a ys hx f =>
    have na : a ≠ La := fun z => by
      rw [z, h] at hx
      cases hx
    exact .tup ((upd_ne na).trans hx) f
  | @dct a ys hx q =>
    have na : a ≠ La := fun z => by
      rw [z, h] at hx
      cases hx
    exact .dct ((upd_ne na).trans hx) q
theorem flat_vd {K : PySem.W.Frag} {H : Hp} : ∀ {v : V}, flatV v = true → Vd K H v (flatD v)
  | .non, _ => .non
  | .bl b, _ => .bl b
  | .int i, _ => .int i
  | .str x, _ => .str x
  | .ref _, h => by cases h
theorem Mv.vd {K : PySem.W.Frag} {p : Addr} {H : Hp} {v : V} {d : PyData} (m : Mv p H v d) : Vd K H v d := by
  cases m with
  | flat h => exact flat_vd h
  | lst h n f => exact .lst ⟨_, h⟩
  | tup h f => exact .tup ⟨_, h⟩
  | dct h q => exact .dct ⟨_, h⟩
theorem flat_dp {K : PySem.W.Frag} {H : Hp} : ∀ {v : V}, flatV v = true → Dp K H v (flatD v) ∧ (flatD v).hasDict = false
  | .non, _ => ⟨.non, rfl⟩
  | .bl b, _ => ⟨.bl b, rfl⟩
  | .int i, _ => ⟨.int i, rfl⟩
  | .str x, _ => ⟨.str x, rfl⟩
  | .ref _, h => by cases h
theorem flats_dp {K : PySem.W.Frag} {H : Hp} : ∀ {xs : List V}, xs.all flatV = true → DpAll K H xs (xs.map flatD) ∧ PyData.hasDictAll (xs.map flatD) = false
  | [], _ => ⟨.nil, rfl⟩
  | x :: xs, h => by
    simp only [List.all_cons, Bool.and_eq_true] at h
    obtain ⟨h1, h2⟩ := flat_dp (K := K) (H := H) h.1
    obtain ⟨h3, h4⟩ := flats_dp (K := K) (H := H) h.2
    exact ⟨.cons h1 h3, by simp [PyData.hasDictAll, h2, h4]⟩
theorem Mv.itm {K : PySem.W.Frag} {p : Addr} {H : Hp} {v : V} {d : PyData} (m : Mv p H v d) : Itm K H v d := by
  cases m with
  | flat h => exact .flat h
  | lst h n f =>
    obtain ⟨h1, h2⟩ := flats_dp (K := K) (H := H) f
    exact .dp (.lst (SqL.of h) h1) (by simpa [PyData.hasDict] using h2)
  | tup h f =>
    obtain ⟨h1, h2⟩ := flats_dp (K := K) (H := H) f
    exact .dp (.tup (SqT.of h) h1) (by simpa [PyData.hasDict] using h2)
  | dct h q => exact .dct h q
/-- small enough -/
def fine (d : PyData) : Bool := d.showable && decide (d.depth ≤ 2) && decide (d.shown.length ≤ 1000) && match d with
  | .str x => decide (x.length ≤ 1000)
  | _ => true
/-- all that a list offers is small, and P says b of it -/
def Menu (p : Addr) (H : Hp) (P : PyData → Bool) (b : Bool) (xs : List V) : Prop := ∀ v ∈ xs, ∃ d, Mv p H v d ∧ fine d = true ∧ P d = b
theorem Menu.nil {p : Addr} {H : Hp} {P : PyData → Bool} {b : Bool} : Menu p H P b [] := fun _ h => by cases h
theorem Menu.cons {p : Addr} {H : Hp} {P : PyData → Bool} {b : Bool} {v : V} {d : PyData} {xs : List V} (m : Mv p H v d) (h1 : fine d = true) (h2 : P d = b) (r : Menu p H P b xs) : Menu p H P b (v :: xs) := fun u hu => by
  rcases List.mem_cons.mp hu with rfl | hu
  · exact ⟨d, m, h1, h2⟩
  · exact r u hu
theorem Menu.app {p : Addr} {H : Hp} {P : PyData → Bool} {b : Bool} {xs ys : List V} (r : Menu p H P b xs) (q : Menu p H P b ys) : Menu p H P b (xs ++ ys) := fun u hu => (List.mem_append.mp hu).elim (r u) (q u)
theorem Menu.same {p : Addr} {H H' : Hp} {P : PyData → Bool} {b : Bool} {xs : List V} (r : Menu p H P b xs) (s : L2.Same H H') : Menu p H' P b xs := fun u hu => by
  obtain ⟨d, m, h⟩ := r u hu
  exact ⟨d, m.same s, h⟩
theorem Menu.stay {p : Addr} {H H' : Hp} {P : PyData → Bool} {b : Bool} {xs : List V} (r : Menu p H P b xs) (hp : Pot H p) (s : Stay p H H') : Menu p H' P b xs := fun u hu => by
  obtain ⟨d, m, h⟩ := r u hu
  exact ⟨d, m.stay hp s, h⟩
theorem listText_le' : ∀ ts : List Str, (listText ts).length ≤ piled ts + 2
  | [] => by rw [listText_nil]; decide +kernel
  | t :: r => by
    have h := textFrom_length_pos r 1 (("[" : Str) ++ ("" : Str) ++ t) (by decide)
    have l1 : (("[" : Str)).length = 1 := by decide +kernel
    have l2 : (("" : Str)).length = 0 := by decide +kernel
    have l3 : (("]" : Str)).length = 1 := by decide +kernel
    have e : listText (t :: r) = textFrom 1 (("[" : Str) ++ ("" : Str) ++ t) r ++ "]" := rfl
    rw [e, Str.length_append, h, Str.length_append, Str.length_append, l1, l2, l3, piled_cons]
    omega
theorem fine_parts {d : PyData} (h : fine d = true) : d.showable = true ∧ d.depth ≤ 2 ∧ d.shown.length ≤ 1000 := by
  unfold fine at h
  simp only [Bool.and_eq_true, decide_eq_true_eq] at h
  exact ⟨h.1.1.1, h.1.1.2, h.1.2⟩
theorem fine_str {d : PyData} {x : Str} (h : fine d = true) (e : d = .str x) : x.length ≤ 1000 := by
  subst e
  unfold fine at h
  simp only [Bool.and_eq_true, decide_eq_true_eq] at h
  exact h.2
theorem fine_all : ∀ {ds : List PyData}, (∀ d ∈ ds, fine d = true) → PyData.showableAll ds = true ∧ PyData.depthAll ds ≤ 2 ∧ piled (PyData.shownAll ds) ≤ 1002 * ds.length
  | [], _ => ⟨rfl, by simp [PyData.depthAll], by simp [PyData.shownAll, piled_nil]⟩
  | d :: ds, h => by
    obtain ⟨h1, h2, h3⟩ := fine_all (ds := ds) fun x hx => h x (List.mem_cons_of_mem _ hx)
    obtain ⟨f1, f2, f3⟩ := fine_parts (h d List.mem_cons_self)
    refine ⟨by simp [PyData.showableAll, h1, f1], by simp only [PyData.depthAll]; omega, ?_⟩
    simp only [PyData.shownAll]
    rw [piled_cons, List.length_cons]
    omega
theorem told_fits {ds : List PyData} (hf : ∀ d ∈ ds, fine d = true) (hn : ds.length ≤ 1000) : PyData.showableAll ds = true ∧ PyData.depthAll ds ≤ 40 ∧ (PyData.list ds).shown.length ≤ sizeLine := by
  obtain ⟨h1, h2, h3⟩ := fine_all hf
  refine ⟨h1, by omega, line_ge ?_⟩
  have h := listText_le' (PyData.shownAll ds)
  simp only [PyData.shown]
  omega
theorem reprT_mk {K : PySem.W.Frag} {H : Hp} {a : Addr} {vs : List V} {ds : List PyData} {Q : VK} (ha : H a = some (.lst vs)) (hi : ItmAll K H vs ds) (hf : ∀ d ∈ ds, fine d = true) (hn : ds.length ≤ 1000) (q : Q (.str (PyData.list ds).shown) H) : rReprT K [.ref a] H Q := by
  obtain ⟨h1, h2, h3⟩ := told_fits hf hn
  exact ⟨a, vs, ds, rfl, ha, hi, h1, h2, h3, q⟩
/-- a list of short plain texts -/
theorem fine_strs {xs : List Str} (h : ∀ x ∈ xs, x.length ≤ 8 ∧ ∀ c ∈ x.cps.toList, c < 16 ^ 8) (hn : xs.length ≤ 11) : fine (.list (xs.map PyData.str)) = true := by
  have h1 : PyData.showableAll (xs.map PyData.str) = true := by
    clear h hn
    induction xs with
    | nil => rfl
    | cons x xs ih => simp [PyData.showableAll, PyData.showable, ih]
  have h2 : PyData.depthAll (xs.map PyData.str) ≤ 1 := by
    clear h hn h1
    induction xs with
    | nil => simp [PyData.depthAll]
    | cons x xs ih =>
      simp only [List.map_cons, PyData.depthAll, PyData.depth]
      omega
  have h3 : piled (PyData.shownAll (xs.map PyData.str)) ≤ 84 * xs.length := by
    clear hn h1 h2
    induction xs with
    | nil => simp [PyData.shownAll, piled_nil]
    | cons x xs ih =>
      have := ih fun y hy => h y (List.mem_cons_of_mem _ hy)
      obtain ⟨g1, g2⟩ := h x List.mem_cons_self
      have l := PySem.StrLaws.reprText_len x g2
      simp only [List.map_cons, PyData.shownAll, PyData.shown]
      rw [piled_cons, List.length_cons]
      omega
  have h4 := listText_le' (PyData.shownAll (xs.map PyData.str))
  unfold fine
  simp only [PyData.showable, h1, PyData.depth, PyData.shown, Bool.and_eq_true, decide_eq_true_eq, Bool.true_and, Bool.and_true]
  exact ⟨decide_eq_true (by omega), decide_eq_true (by omega)⟩
theorem fine_text {x : Str} (h : x.length ≤ 8) (g : ∀ c ∈ x.cps.toList, c < 16 ^ 8) : fine (.str x) = true := by
  have l := PySem.StrLaws.reprText_len x g
  unfold fine
  simp only [PyData.showable, PyData.depth, PyData.shown, Bool.and_eq_true, decide_eq_true_eq, Bool.true_and]
  exact ⟨⟨decide_eq_true (by omega), decide_eq_true (by omega)⟩, by omega⟩
theorem flatD_strs (xs : List Str) : (xs.map V.str).map flatD = xs.map PyData.str := by
  rw [List.map_map]
  rfl
/-! ### a list beside an empty one -/
def rEq0 (K : PySem.W.Frag) : R2 := fun x y H Q => ∃ (a b : Addr) (xs ys : List V), x = .ref a ∧ y = .ref b ∧ SqL K H a xs ∧ SqL K H b ys ∧ ys.length = 0 ∧ Q (.bl (decide (xs.length = 0))) H
def rNe0 (K : PySem.W.Frag) : R2 := fun x y H Q => ∃ (a b : Addr) (xs ys : List V), x = .ref a ∧ y = .ref b ∧ SqL K H a xs ∧ SqL K H b ys ∧ ys.length = 0 ∧ Q (.bl (!decide (xs.length = 0))) H
section
variable {X : Cx}
theorem op_eq0 (hu : X.A.units + 64 < cLine) : OpR X (compareOp .Eq) (rEq0 X.K) := by
  intro pins s σ H x y v u Q I rx ry h
  obtain ⟨a, b, xs, ys, rfl, rfl, ha, hb, hn, q⟩ := h
  cases (show v = Value.ref a from rx)
  cases (show u = Value.ref b from ry)
  obtain ⟨its, r1, e1, _⟩ := I.list ha
  obtain ⟨it2, r2, e2, _⟩ := I.list hb
  have l1 := r1.length
  have l2 := r2.length
  have z2 : it2 = [] := List.eq_nil_of_length_eq_zero (by omega)
  subst z2
  show wpAny _ _ (richCompare .Eq (.ref a) (.ref b)) _ _ _
  cases xs with
  | nil =>
    have z1 : its = [] := List.eq_nil_of_length_eq_zero l1.symm
    subst z1
    have q' : Q (.bl true) H := q
    exact SeqAt.RcAt.lists (e := fun _ => true) e1.isList e2.isList rfl (by omega) (fun j hj => absurd hj (by simp)) X.prog X.w X.xe _ ⟨.bl true, H, I, rfl, q'⟩
  | cons z zs =>
    have q' : Q (.bl false) H := q
    exact SeqAt.RcAt.lists_lengths e1.isList e2.isList (by simp at l1; simp; intro z; rw [z] at l1; simp at l1) (by omega) X.prog X.w X.xe _ ⟨.bl false, H, I, rfl, q'⟩
theorem op_ne0 (hu : X.A.units + 64 < cLine) : OpR X (compareOp .NotEq) (rNe0 X.K) := by
  intro pins s σ H x y v u Q I rx ry h
  obtain ⟨a, b, xs, ys, rfl, rfl, ha, hb, hn, q⟩ := h
  cases (show v = Value.ref a from rx)
  cases (show u = Value.ref b from ry)
  obtain ⟨its, r1, e1, _⟩ := I.list ha
  obtain ⟨it2, r2, e2, _⟩ := I.list hb
  have l1 := r1.length
  have l2 := r2.length
  have z2 : it2 = [] := List.eq_nil_of_length_eq_zero (by omega)
  subst z2
  show wpAny _ _ (richCompare .NotEq (.ref a) (.ref b)) _ _ _
  cases xs with
  | nil =>
    have z1 : its = [] := List.eq_nil_of_length_eq_zero l1.symm
    subst z1
    have q' : Q (.bl false) H := q
    exact SeqAt.RcNeAt.lists (e := fun _ => true) e1.isList e2.isList rfl (by omega) (fun j hj => absurd hj (by simp)) X.prog X.w X.xe _ ⟨.bl false, H, I, rfl, q'⟩
  | cons z zs =>
    have q' : Q (.bl true) H := q
    exact SeqAt.RcNeAt.lists_lengths e1.isList e2.isList (by simp at l1; simp; intro z; rw [z] at l1; simp at l1) (by omega) X.prog X.w X.xe _ ⟨.bl true, H, I, rfl, q'⟩
end
/-! ### an own + whose other side is anything -/
open PySem.W (Looks Frag findIn clsIn InstAt) in
theorem bin1_type {prog : Program} {w : World} {A : Around} {E : Value → Shared → Prop} {s : Shared} {K : PySem.W.Frag} {x C f : Addr} {ox : Obj} {od : Option Obj} {nm T : String} {b : Value} {Q : Option Value → Shared → Prop} (KX : K.In s.heap) (J : InstAt s.heap x ox C od) (hb : Looks (model prog w) s.heap (typeOf b) (.type T))
    (o : OwnT K C T nm) (hs : findIn K (.ref C) (PySem.dunder nm) = some (some (.ref f))) (hf : PySem.W.isFn K (.ref f) = true) (h : wpAny (model prog w) A (call (.ref f) [.ref x, b]) (PySem.W.CmpBack fun v => Q (some v)) E s) :
    wpAny (model prog w) A (binaryOp1 nm (.ref x) b) Q E s := by
  obtain ⟨cd, rest, hcd, hm⟩ := PySem.W.ksp_first o.sf
  obtain ⟨rc, r1, r2⟩ := o.r
  obtain ⟨fo, t1⟩ := o.t1
  obtain ⟨ro, t2⟩ := o.t2
  have try_ := PySem.W.ksp_try KX J hs hf h
  obtain ⟨hp, gg, dd, tt, os⟩ := s
  have k1 : Looks (model prog w) hp (typeOf (.ref x)) (.ref C) := J.type
  have k2 := hb
  have k3 : Looks (model prog w) hp (fillsNumberSlot (.ref C) nm) true := PySem.W.fills_K KX hcd hm hs
  have k4 := PySem.W.ksp_fillsT (M := model prog w) (nm := nm) KX t1 t2
  have k5 : Looks (model prog w) hp (isSubtype (.type T) (.ref C)) false := PySem.W.looks_subIn KX o.su
  have k6 : Looks (model prog w) hp (numberSlotInPython (.ref C) nm) true := PySem.W.ksp_inPy KX hs r1 r2
  have k7 : Looks (model prog w) hp (numberSlotInPython (.type T) nm) false := Looks.of_pure rfl
  have k8 : Looks (model prog w) hp (typeLookup (.type T) (dunderR nm)) ro := PySem.W.looks_findIn KX t2
  generalize ((fo.isSome && !isSeqSlot fo) || (ro.isSome && !isSeqSlot ro)) = rt at k4
  have dif : (Value.ref C == Value.type T) = false := Bool.eq_false_iff.mpr fun q => by cases beq_iff_eq.mp q
  unfold binaryOp1
  refine wpAny_bind (k1.at (wpAny_bind (k2.at (wpAny_bind (k3.at ?_)))))
  simp only [dif, Bool.false_eq_true, if_false]
  cases rt
  · ksp_lk
    refine wpAny_mono try_ (fun r s' ⟨v, er, hq⟩ => ?_) fun _ _ e => e
    subst er
    ksp_lk
    exact hq
  · ksp_lk
    refine wpAny_mono try_ (fun r s' ⟨v, er, hq⟩ => ?_) fun _ _ e => e
    subst er
    ksp_lk
    exact hq
open PySem.W (Looks Frag findIn clsIn InstAt) in
theorem binop_type {prog : Program} {w : World} {A : Around} {E : Value → Shared → Prop} {s : Shared} {K : PySem.W.Frag} {x C f : Addr} {ox : Obj} {od : Option Obj} {T : String} {b : Value} {Q : Value → Shared → Prop} (KX : K.In s.heap) (J : InstAt s.heap x ox C od) (hb : Looks (model prog w) s.heap (typeOf b) (.type T))
    (o : OwnT K C T "add") (hs : findIn K (.ref C) "__add__" = some (some (.ref f))) (hf : PySem.W.isFn K (.ref f) = true) (h : wpAny (model prog w) A (call (.ref f) [.ref x, b]) (PySem.W.CmpBack Q) E s) : wpAny (model prog w) A (binaryOp .Add (.ref x) b) Q E s := by
  unfold binaryOp
  refine wpAny_holding (wpAny_bind (bin1_type (nm := "add") KX J hb o (by rw [du_add]; exact hs) hf (wpAny_mono h (fun v s' z => ?_) fun _ _ e => e)))
  cases v <;> first | exact z.elim | exact wpAny_pure z
/-- x + y by the def at g, y of the same class, of one without the operator, or of a built-in type -/
def rOpAny (K : PySem.W.Frag) (C : Addr) (nm : String) (sp : Sp) (E : XK) : R2 := fun x y H Q => ∃ (a dx : Addr) (fs : List (Str × V)) (t : Value), x = .ref a ∧ H a = some (.ins C dx fs) ∧ TyX K H y t ∧ (t = .ref C ∨ (∃ D, t = .ref D ∧ NoOp K D nm) ∨ ∃ T, t = .type T ∧ OwnT K C T nm) ∧ sp [x, y] H Q E
section
variable {X : Cx} {CX : CXT} {C g : Addr} {n k j : Nat} {sp : Sp} {E : XK}
theorem op_addAny (hc : PySem.W.selfFirst X.K C = true) (hs : PySem.W.findIn X.K (.ref C) "__add__" = some (some (.ref g))) (hf : PySem.W.isFn X.K (.ref g) = true) (F : FnR X.prog X.w X.K X.mg X.base CX n g sp) (hr : Room n X.A) (hx : Passes CX X E) :
    OpR X (binaryOp .Add) (rOpAny X.K C "add" sp E) := by
  intro pins s σ H x y v u Q I rx ry h
  obtain ⟨a, dx, fs, t, rfl, ha, ty, hn, q⟩ := h
  rcases hn with hn | hn | ⟨T, rfl, o⟩
  · exact op_addO hc hs hf F hr hx pins s σ H (.ref a) y v u Q I rx ry ⟨a, dx, fs, t, rfl, ha, ty, .inl hn, q⟩
  · exact op_addO hc hs hf F hr hx pins s σ H (.ref a) y v u Q I rx ry ⟨a, dx, fs, t, rfl, ha, ty, .inr hn, q⟩
  cases (show v = Value.ref a from rx)
  obtain ⟨mA, O, _⟩ := ins_get I.hok ha
  obtain ⟨od, J, _⟩ := O.look
  obtain ⟨Pk, Z, pk, _⟩ := kit_of I ry ty
  refine binop_type I.kIn J (Z.ty _ _ I.kIn pk) o hs hf ?_
  refine wpAny_mono (wpAny_call (run_fnR (us := [.ref a, u]) (vs := [.ref a, y]) F hr hx I (.cons rfl (.cons ry .nil)) q)) (fun r s' z => ?_) fun _ _ e => e
  obtain ⟨z', H', I', rz, qz⟩ := z
  exact SlX.cmpback rz ⟨z', H', I', rz, qz⟩
theorem op_addSAE (c : CalSE X.prog X.w X.K X.mg X.base k C "__add__" sp) (px : Passes (L2.CX X.prog X.w) X E) (hc : PySem.W.selfFirst X.K C = true) (hr : Room j X.A) (hk : k ≤ j) : OpR X (binaryOp .Add) (rOpAny X.K C "add" sp E) := by
  obtain ⟨f, F, h1, h2⟩ := c
  exact op_addAny hc h1 h2 F (hr.mono hk) px
end
/-! ### a lambda handed to a def that says repr -/
def CalLG (P : Program) (w : World) (K : PySem.W.Frag) (mg : Str → Option Value) (base : Heap) (n : Nat) (x a : Str) (TT : (XK → Hp → VK → Prop) → Hp → VK → Prop) : Prop :=
  ∃ (g : Addr) (oc : Value) (od : Option Addr) (pg : Arguments) (bg : List Stmt) (sg : Scope) (dV kV doc pm cdv ct : Value) (an : Option Addr) (osl : Array (Option Value)) (Ng : List Str),
    mg x = some (.ref g) ∧ PySem.W.keepIn K (.ref g) = true ∧ K.lookup g = some ⟨oc, od, .func (PySem.W.fnOf x x pg bg sg dV kV doc pm an cdv ct), osl⟩ ∧ PySem.W.codeIn K cdv x = true ∧ Binds K (PySem.W.fnOf x x pg bg sg dV kV doc pm an cdv ct) [a] [] ∧ FnScope Ng [a] sg ∧ Ng[0]? = some a ∧ Vis sg a ∧
    ∀ (X : Cx) (q : Str), X.prog = P → X.w = w → X.K = K → X.mg = mg → X.base = base → X.A.guards = some [] → GivesS n X Ng x sg g cdv bg a q TT
section
variable {X : Cx} {n j : Nat} {x a : Str} {T : List (Addr × Str)} {TT : (XK → Hp → VK → Prop) → Hp → VK → Prop} {c P : Addr} {params : Arguments} {body : Expr} {scope : Scope} {t : XK → TE} {p lpos pos : Pos}
theorem pe_lamG (hgd : X.A.guards = some []) (cl : CalLG X.prog X.w X.K X.mg X.base n x a TT) (hg : Gl X x) (TB : TabB X.base X.mg c P) (hcode : X.env.code = .ref c) (hmT : (P, X.env.qual ++ "<lambda>") ∈ T) (hu : ∀ p ∈ T, p.1 = P → p.2 = X.env.qual ++ "<lambda>") (hr : Room j X.A) (hn : n ≤ j) (hj : 2 ≤ j)
    (L : LamS X.env.scope scope) (hdef : defaultsOf params X.env = ([], [])) (hbind : ∀ (q : Str) (cl : List (Str × Addr)) (pm cv ctv : Value), bindArgs (PySem.W.kla_fn "<lambda>" q params body scope cl pm cv ctv) ⟨[], []⟩ = pure [])
    (hbody : ∀ (A : Around) (outer : List Env) (s : Shared) (H : Hp) (E : XK) (f c' : Addr), Room (j - 2) (A.deeper (lamEnv X scope s.heap.objs.size f c')) → PE (lamCx X A outer s H E scope f c') body (t E))
    (hdb : (x == ("__debug__" : Str)) = false := by decide) (hd : (a == ("__debug__" : Str)) = false := by decide) (hcd : (a == ("__classdict__" : Str)) = false := by decide) :
    PE X (.Call (.Name x p) [.Lambda params body scope lpos] [] pos) (tLam T TT t) := by
  obtain ⟨g, oc, od, pg, bg, sg, dV, kV, doc, pm, cdv, ct, an, osl, Ng, hm, kp, lk, hcg, hb, Sg, hN, hv, hG⟩ := cl
  have hj2 : j - 2 + 2 = j := by omega
  exact pe_lamS (k := j - 2) hg hm kp lk hcg hb Sg hN hv (hG X _ rfl rfl rfl rfl rfl hgd) TB hcode hmT hu (by rw [hj2]; exact hr) (by omega) L hdef hbind hbody hdb hd hcd
end
/-! ### classes made of a star or of nothing, whose making may raise -/
section
variable {X : Cx} {k j : Nat} {C : Addr} {sp : Sp} {x : Str} {e : Expr} {te : TE} {p pos sp_ : Pos} {E : XK}
theorem pe_nR0E (c : MakRE X.prog X.w X.K X.mg X.base k x C sp) (px : Passes (L2.CX X.prog X.w) X E) (hr : Room j X.A) (hk : k + 1 ≤ j) (hg : Gl X x) (hdb : (x == ("__debug__" : Str)) = false := by decide) : PE X (.Call (.Name x p) [] [] pos) (StX.tMakeR C sp E tNil) := by
  obtain ⟨f, F, M, g⟩ := c
  exact ⟨fun pins s σ H Q I h => wpAny_Call_Name_kw (ld_glob I hg g (PySem.W.callWith_K0 I.kIn M.kp (StX.run_makeR (us := []) M F (hr.mono hk) px I .nil h)) hdb)⟩
theorem pe_nRSE (c : MakRE X.prog X.w X.K X.mg X.base k x C sp) (px : Passes (L2.CX X.prog X.w) X E) (hr : Room j X.A) (hk : k + 1 ≤ j) (hg : Gl X x) (he : PE X e te) (hd : (x == ("__debug__" : Str)) = false := by decide)
    (hst : starEach [.Starred e sp_] X.env = [(true, eval e X.env)] := by rfl) : PE X (.Call (.Name x p) [.Starred e sp_] [] pos) (tMakeS X.K C sp E te) := by
  obtain ⟨f, F, M, g⟩ := c
  refine ⟨fun pins s σ H Q I h => wpAny_Call_Name_kw (ld_glob I hg g (PySem.W.callWith_S (h₀ := X.base) I.ok.mod.kin M.kp (thn (he.run pins s σ H _ I h) fun v s1 ⟨y, H1, I1, ry, a, xs, ey, hxs, q⟩ => ?_) hst) hd)⟩
  subst ey
  obtain rfl : v = Value.ref a := ry
  exact StX.star_any I1 hxs fun us s2 I2 rv => ⟨I2.kIn, StX.run_makeR M F (hr.mono hk) px I2 rv q⟩
end
/-- a list walked within a try: what it reads may not name the try's own context -/
theorem pi_listK {X : Cx} {K' : PySem.W.Frag} {l tg : Expr} {tl : TE} (q : X.K = K') (hl : PE X l tl) : PI X tg l (iList K' tl) := q ▸ pi_list hl
/-- two tables -/
theorem two_1 {P1 P2 : Addr} {q1 q2 : Str} (ne : P1 ≠ P2) : ∀ p ∈ [(P1, q1), (P2, q2)], p.1 = P1 → p.2 = q1 := fun p hp e => by
  simp only [List.mem_cons, List.not_mem_nil, or_false] at hp
  rcases hp with rfl | rfl
  · rfl
  · exact absurd e.symm ne
theorem two_2 {P1 P2 : Addr} {q1 q2 : Str} (ne : P1 ≠ P2) : ∀ p ∈ [(P1, q1), (P2, q2)], p.1 = P2 → p.2 = q2 := fun p hp e => by
  simp only [List.mem_cons, List.not_mem_nil, or_false] at hp
  rcases hp with rfl | rfl
  · exact absurd e ne
  · rfl
/-- the first place where b says yes -/
theorem find_at {n i : Nat} {b : Nat → Bool} (h : b i = true) (hi : i < n) (no : ∀ j, j < i → b j = false) : (List.range n).find? b = some i := by
  rw [List.find?_range_eq_some]
  exact ⟨h, List.mem_range.mpr hi, fun j hj => by simp [no j hj]⟩
theorem find_none {n : Nat} {b : Nat → Bool} (no : ∀ j, j < n → b j = false) : (List.range n).find? b = none := by
  rw [List.find?_eq_none]
  intro j hj
  simp [no j (List.mem_range.mp hj)]
end UL
set_option Elab.async false
set_option linter.all false
set_option maxRecDepth 100000
set_option maxHeartbeats 4000000
namespace UL
open PySem PySem.Spec PyProof.Rows L2
section
variable {J : It} {n : Nat} {G : Hp → Prop} {Y : Nat → Hp → V → Hp → Prop} {g : TG} {tt : TT} {te : TE} {vs : List Nat} {σ : L2.St} {H1 : Hp} {D : Addr} {Qd : Hp → Prop}
/-- the elements tell R, which may speak of lists other than the row itself; a pot may change -/
theorem lc_stayD (w : Walk J n G Y) {p : Addr} (hD : H1 D = none) (hp : Pot H1 p) (R : Nat → V → Hp → Prop)
    (mono : ∀ i v H H', R i v H → (∃ xs, H D = some (.lst xs)) → Pot H p → (∀ b o, b ≠ p → b ≠ D → H b = some o → H' b = some o) → R i v H') (hn : n ≤ 16000000) (hG : ∀ H, Stay p H1 H → Pot H p → G H)
    (hs : ∀ i x H H', i < n → Stay p H1 H → Pot H p → (∃ xs, H D = some (.lst xs)) → Y i H x H' → ∀ Z : V → Hp → Prop, (∀ y H4, R i y H4 → Stay p H H4 → Pot H4 p → Z y H4) → g x (wipe σ vs) H' fun σ2 H2 => wipe σ2 vs = wipe σ vs ∧ te σ2 H2 Z)
    (hd : ∀ H ys, ys.length = n → (∀ i y, ys[i]? = some y → R i y H) → Stay p H1 H → Pot H p → H D = some (.lst ys) → Qd H) : LcW J g tYes te vs σ H1 D Qd := by
  obtain ⟨a0, b0, e0, _⟩ := id hp
  have np : D ≠ p := (ne_of_none e0 hD).symm
  refine lc_it w (fun i H => ∃ ys : List V, H D = some (.lst ys) ∧ ys.length = i ∧ Stay p H1 H ∧ Pot H p ∧ ∀ j y, ys[j]? = some y → R j y H) ⟨[], upd_same, rfl, Same.stay (same_new hD) p, hp.same (same_new hD), fun j y z => by simp at z⟩
    (fun i H _ ⟨_, _, _, s, q, _⟩ => hG H s q) (fun i x H H' hi ⟨ys, d, l, s, q, r⟩ y => ?_) fun H ⟨ys, d, l, s, q, r⟩ => hd H ys l r s q d
  refine hs i x H H' hi s q ⟨_, d⟩ y _ fun y H4 ry s4 q4 => ?_
  have d4 : H4 D = some (.lst ys) := s4 _ _ np d
  have go : ∀ (b : Addr) (o : HO), b ≠ p → b ≠ D → H4 b = some o → upd H4 D (.lst (ys ++ [y])) b = some o := fun b o _ n e => (upd_ne n).trans e
  refine ⟨ys, d4, line_gt (by omega), ys ++ [y], upd_same, by rw [List.length_append, l]; rfl, fun b o n e => ?_, ?_, fun j z hz => ?_⟩
  · rw [upd_ne (ne_of_none e hD)]
    exact s4 _ _ n (s _ _ n e)
  · obtain ⟨a4, b4, e4, r4⟩ := q4
    exact ⟨a4, b4, (upd_ne np.symm).trans e4, r4⟩
  · by_cases c : j < ys.length
    · rw [List.getElem?_append_left c] at hz
      exact mono j z H4 _ (mono j z H H4 (r j z hz) ⟨_, d⟩ q fun b o n1 _ e => s4 b o n1 e) ⟨_, d4⟩ q4 go
    · have hb := (List.getElem?_eq_some_iff.mp hz).1
      rw [List.length_append, List.length_singleton] at hb
      have ej : j = ys.length := by omega
      rw [ej, List.getElem?_concat_length] at hz
      cases hz
      rw [show j = i by omega]
      exact mono _ _ H4 _ ry ⟨_, d4⟩ q4 go
end
end UL
set_option Elab.async false
set_option linter.all false
set_option maxRecDepth 100000
set_option maxHeartbeats 4000000
/-! ### y in x by x's class; repr of a list that holds instances -/
namespace UL
open PySem PySem.Spec PyProof.Rows L2
section
variable {X : Cx} {k j : Nat} {C : Addr} {sp : Sp}
/-- y in x by the def of x's class at C, which answers a truth -/
def rInO (C : Addr) (neg : Bool) (sp : Sp) (E : XK) : R2 := fun y x H Q => ∃ (a dx : Addr) (fs : List (Str × V)), x = .ref a ∧ H a = some (.ins C dx fs) ∧ sp [.ref a, y] H (fun z H' => ∃ b : Bool, z = .bl b ∧ Q (.bl (if neg then !b else b)) H') E
theorem op_inS (c : CalS X.prog X.w X.K X.mg X.base k C "__contains__" sp) (hr : Room j X.A) (hk : k + 1 ≤ j) : OpR X (compareOp .In) (rInO C false sp E0) := by
  obtain ⟨f, F, h1, h2⟩ := c
  intro pins s σ H y x u v Q I ry rx h
  obtain ⟨a, dx, fs, rfl, ha, q⟩ := h
  cases (show v = Value.ref a from rx)
  obtain ⟨mA, O, _⟩ := ins_get I.hok ha
  obtain ⟨od, J, _⟩ := O.look
  obtain ⟨m, hF⟩ := I.fr
  refine PySem.W.in_K hF I.ok.mod.kin J h1 h2 (wpAny_mono (wpAny_call (SlX.run_at (us := [.ref a, u]) (ws := [.ref a, y]) F (hr.mono (Nat.le_trans (Nat.le_succ _) hk)) I.env0 pass0 I (.cons rfl (.cons ry .nil)) q)) (fun r s' z => ?_) fun _ _ e => e)
  obtain ⟨z', H', I', rz, b, ez, qz⟩ := z
  subst ez
  cases (show r = Value.bool b from rz)
  exact wpAny_truthy_bool ⟨.bl b, H', I', rfl, qz⟩
theorem op_notInS (c : CalS X.prog X.w X.K X.mg X.base k C "__contains__" sp) (hr : Room j X.A) (hk : k + 1 ≤ j) : OpR X (compareOp .NotIn) (rInO C true sp E0) := by
  obtain ⟨f, F, h1, h2⟩ := c
  intro pins s σ H y x u v Q I ry rx h
  obtain ⟨a, dx, fs, rfl, ha, q⟩ := h
  cases (show v = Value.ref a from rx)
  obtain ⟨mA, O, _⟩ := ins_get I.hok ha
  obtain ⟨od, J, _⟩ := O.look
  obtain ⟨m, hF⟩ := I.fr
  refine PySem.W.notIn_K hF I.ok.mod.kin J h1 h2 (wpAny_mono (wpAny_call (SlX.run_at (us := [.ref a, u]) (ws := [.ref a, y]) F (hr.mono (Nat.le_trans (Nat.le_succ _) hk)) I.env0 pass0 I (.cons rfl (.cons ry .nil)) q)) (fun r s' z => ?_) fun _ _ e => e)
  obtain ⟨z', H', I', rz, b, ez, qz⟩ := z
  subst ez
  cases (show r = Value.bool b from rz)
  exact wpAny_truthy_bool ⟨.bl (!b), H', I', rfl, qz⟩
end
/-! ### repr of an instance from within a list's repr -/
open PySem.W (Frag findIn InstAt) in
theorem under_inst {prog : Program} {w : World} {A : Around} {E : Value → Shared → Prop} {s : Shared} {K : Frag} {x C f : Addr} {ox : Obj} {od : Option Obj} {base : Nat} {Q : Value → Shared → Prop} (hu : A.units < cLine) (KX : K.In s.heap) (J : InstAt s.heap x ox C od) (hs : findIn K (.ref C) "__repr__" = some (some (.ref f)))
    (hf : PySem.W.isFn K (.ref f) = true) (h : wpAny (model prog w) A (call (.ref f) [.ref x]) (fun v s' => ∃ y u, v = .str y u ∧ Q v s') E s) : wpAny (model prog w) A (pyReprObjUnder base (.ref x)) Q E s := by
  have fn := beq_iff_eq.mp hf
  have look := PySem.W.looks_findIn (M := model prog w) KX hs
  have last : wpAny (model prog w) A (call (.ref f) [.ref x] >>= fun v => pure (some v)) (fun r s' => ∃ y u, r = some (.str y u) ∧ Q (.str y u) s') E s := wpAny_bind (wpAny_mono h (fun v s' hv => by
    obtain ⟨y, u, rfl, q⟩ := hv
    exact wpAny_pure ⟨y, u, rfl, q⟩) fun _ _ z => z)
  unfold pyReprObjUnder pyReprObjBy
  refine wpAny_bind (wpAny_cRoomFor hu (wpAny_bind (wpAny_bind (J.type.here (look.here ?_)))))
  show wpAny _ _ (if (some (Value.ref f)).isNone = true then _ else _) _ _ _
  rw [if_neg (show ¬ (some (Value.ref f)).isNone = true from Bool.false_ne_true)]
  refine wpAny_bind (m := callSpecialIfBoundBy? _ (.ref x) _) (wpAny_mono (Q := fun r s' => ∃ y u, r = some (.str y u) ∧ Q (.str y u) s') ?_ (fun r s' hr => ?_) fun _ _ z => z)
  · unfold callSpecialIfBoundBy? bindSpecialIfBound?
    refine wpAny_holding (wpAny_bind (wpAny_bind (wpAny_bind (J.type.here (look.here (wpAny_bind (wpAny_askSetting (wpAny_ite ?_))))))))
    split
    · exact wpAny_bind ((PySem.W.bind_fn KX _ fn).here (wpAny_pure (by exact last)))
    · exact wpAny_tryCatch (wpAny_bind ((PySem.W.bind_fn KX _ fn).here (wpAny_pure (by exact last))))
  · obtain ⟨y, u, rfl, q⟩ := hr
    refine wpAny_bind (wpAny_isInstance (typeIs_str _ _ _) isSubtype_str_str ?_)
    first
      | exact wpAny_pure q
      | (rw [if_pos rfl]; exact wpAny_pure q)
      | (simp only [if_true]; exact wpAny_pure q)
section
variable {X : Cx} {pins : List (Addr × Obj)} {σ : L2.St} {H : Hp}
/-- what is told from within: the state and an object at P stay -/
def UnderOk (X : Cx) (pins : List (Addr × Obj)) (σ : L2.St) (H : Hp) (a : Addr) (v : V) (t : Str) : Prop :=
  ∀ (base : Nat) (A : Around) (s : Shared) (Q : Str → Shared → Prop) (u : Value) (rest : List Value), base + t.length ≤ sizeLine → A.guards = some [.builtin "list.__repr__.loop" ⟨.ref a :: rest, []⟩] → A.frames = X.A.frames → A.handled = none → A.depth ≤ X.A.depth + 3 → A.units ≤ X.A.units + 16 →
    Inv X pins σ H s → RelV v u → (∀ s', Inv X pins σ H s' → (∀ b o, s.heap.get? b = some o → H b = none → b ∉ frs X.stack → s'.heap.get? b = some o) → Q t s') → wpAny (model X.prog X.w) A (pyReprUnder base u) Q X.xe s
theorem UnderOk.flat {a : Addr} {v : V} (f : flatV v = true) (hs : (flatD v).showable = true) (hz : (flatD v).shown.length ≤ sizeLine) : UnderOk X pins σ H a v (flatD v).shown := by
  intro base A s Q u rest hb hg _ _ _ _ I r q
  have go : ∀ {t : Str}, ReprIs X.prog X.w u t → base + t.length ≤ sizeLine → (∀ tk, Q t { s with toks := tk }) → wpAny (model X.prog X.w) A (pyReprUnder base u) Q X.xe s := fun k hb2 hq => k base hb2 A X.xe s Q hq
  have fin : ∀ tk, Q (flatD v).shown { s with toks := tk } := fun tk => q _ (I.tok tk) fun _ _ e _ _ => e
  cases v with
  | non =>
    cases (show u = Value.none from r)
    simp only [flatD, PyData.shown] at fin hb
    exact go ReprIs.none hb fin
  | bl b =>
    cases (show u = Value.bool b from r)
    simp only [flatD, PyData.shown] at fin hb
    exact go (ReprIs.bool b) hb fin
  | int i =>
    obtain ⟨t, rfl⟩ := r
    simp only [flatD, PyData.shown] at fin hb
    exact go (ReprIs.int t (by simpa [flatD, PyData.showable] using hs)) hb fin
  | str x =>
    obtain ⟨t, rfl⟩ := r
    simp only [flatD, PyData.shown] at fin hb hz
    exact go (ReprIs.str x t hz) hb fin
  | _ => cases f
theorem UnderOk.inst {a b C dx g : Addr} {fs : List (Str × V)} {t : Str} {sp : Sp} {n : Nat} (hs : PySem.W.findIn X.K (.ref C) "__repr__" = some (some (.ref g))) (hf : PySem.W.isFn X.K (.ref g) = true) (F : FnR X.prog X.w X.K X.mg X.base CX0 n g sp) (hr : Room (n + 2) X.A) (hb : H b = some (.ins C dx fs)) (q : ∀ Q : VK, Q (.str t) H → sp [.ref b] H Q E0) :
    UnderOk X pins σ H a (.ref b) t := by
  intro base A s Q u rest hbz hg hfr hh hd hu I r fin
  cases (show u = Value.ref b from r)
  obtain ⟨mA, O, _⟩ := ins_get I.hok hb
  obtain ⟨od, J, _⟩ := O.look
  have room : Room n A := ⟨hh, by have := hr.dp; omega, by have := hr.un; omega⟩
  have e0 : Env0 X.prog X.w X.K X.mg X.base A X.stack s H := by
    have e := I.env0
    exact ⟨by rw [hfr]; exact e.frames, e.mod, e.bs, e.bsz, e.funs, e.frf, e.hok, e.bare⟩
  refine wpAny_pyReprUnder_ref (by omega) (under_inst room.units0 I.kIn J hs hf ?_)
  refine wpAny_call (codeAny_mono (F A X.stack s H [.ref b] [.ref b] (fun z H' => z = .str t ∧ H' = H) E0 room e0 (.cons rfl .nil) (q _ ⟨rfl, rfl⟩)) fun r' s' hq => ?_)
  cases r' with
  | error e => exact pass0 pins σ H s e s' I hq
  | ok fl =>
    cases fl with
    | ret w =>
      have hq' := hq
      obtain ⟨z, H', os, bare, un, hok, rz, ez, eH⟩ := hq
      subst ez eH
      obtain ⟨t0, rfl⟩ := rz
      obtain ⟨z2, H2, I2, rz2, ez2, eH2⟩ := I.after hq'
      subst eH2
      exact ⟨t, t0, rfl, t, t0, rfl, fin s' I2 fun c o hc hn hfr => un.keep c o hc hn hfr (by simp)⟩
    | next => exact hq.elim
    | brk => exact hq.elim
    | cont => exact hq.elim
/-- the values' texts, one by one -/
inductive UnderAll (X : Cx) (pins : List (Addr × Obj)) (σ : L2.St) (H : Hp) (a : Addr) : List V → List Str → Prop
  | nil : UnderAll X pins σ H a [] []
  | cons {v : V} {t : Str} {vs : List V} {ts : List Str} (h : UnderOk X pins σ H a v t) (r : UnderAll X pins σ H a vs ts) : UnderAll X pins σ H a (v :: vs) (t :: ts)
theorem UnderAll.len {a : Addr} : ∀ {vs : List V} {ts : List Str}, UnderAll X pins σ H a vs ts → vs.length = ts.length
  | _, _, .nil => rfl
  | _, _, .cons _ r => by rw [List.length_cons, List.length_cons, r.len]
theorem UnderAll.at {a : Addr} : ∀ {vs : List V} {ts : List Str} {i : Nat} {v : V}, UnderAll X pins σ H a vs ts → vs[i]? = some v → ∃ t, ts[i]? = some t ∧ UnderOk X pins σ H a v t
  | _, _, _, _, .nil, e => by simp at e
  | _, _, 0, v, .cons h _, e => by
    simp at e
    subst e
    exact ⟨_, rfl, h⟩
  | _, _, i + 1, v, .cons _ r, e => by
    obtain ⟨t, h1, h2⟩ := r.at (i := i) (v := v) (by simpa using e)
    exact ⟨t, by simpa using h1, h2⟩
theorem loop_under (A : Around) (args : Args) : (A.under (.builtin "list.__repr__.loop" args)).frames = A.frames ∧ (A.under (.builtin "list.__repr__.loop" args)).handled = A.handled ∧ (A.under (.builtin "list.__repr__.loop" args)).depth ≤ A.depth + 2 ∧ (A.under (.builtin "list.__repr__.loop" args)).units = A.units + 1 := by
  refine ⟨?_, ?_, ?_, ?_⟩
  · first | rfl | simp [Around.under, Code.frames, Code.isFrame]
  · first | rfl | simp [Around.under]
  · first | exact Nat.le_add_right _ _ | exact Nat.le_succ _ | simp [Around.under, Code.weight, Code.isCreation, Code.isGuard, Code.isCaller, Code.frames, Code.isFrame, guardIds]
  · first | rfl | simp [Around.under, Code.cUnits, Code.frames, Code.isFrame]
theorem loopU {A : Around} {a P : Addr} {vs : List V} {ts : List Str} {R : Result → Shared → Prop} (hg : A.guards = some []) (hfr : A.frames = X.A.frames) (hh : A.handled = none) (hd : A.depth ≤ X.A.depth + 1) (hu : A.units ≤ X.A.units + 10) (ha : H a = some (.lst vs)) (hU : UnderAll X pins σ H a vs ts)
    (fp : FpOk X pins H P) (hz : (listText ts).length ≤ sizeLine) (hx : ∀ e s', X.xe e s' → R (.error e) s') (hR : ∀ s' u, Inv X pins σ H s' → R (.ok (.ret (.str (listText ts) u))) s') :
    ∀ (k i : Nat) (s : Shared) (acc : Array Value) (c : Nat) (done : List (Str × Tok)), vs.length - i = k → i ≤ vs.length → Inv X pins σ H s → s.heap.get? P = some { cls := .type "list", dict := none, data := .seq acc c, slots := #[] } → acc.toList = strValues done → done.map (·.1) = ts.take i →
      codeAny (model X.prog X.w) A (.builtin "list.__repr__.loop" ⟨[.ref a, rawInt i, .ref P, rawInt ((piled (ts.take i) : Nat) : Int)], []⟩) R s := by
  obtain ⟨f0, f1, f2, f3, f4, f5⟩ := id fp
  have lvt := hU.len
  have tl := textFrom_len ts 0 "["
  have tx : (listText ts).length = (textFrom 0 "[" ts).length + 1 := by
    show (textFrom 0 "[" ts ++ "]").length = _
    rw [strLen_append]
    rfl
  have pl := piled_le_listText ts
  have nts : ts.length ≤ sizeLine := by
    have h1 := tl.1
    simp only [Nat.lt_irrefl, if_false] at h1
    omega
  have each : ∀ t ∈ ts, t.length ≤ sizeLine := fun t ht => by
    have := tl.2.1 t ht
    omega
  have nPa : P ≠ a := fun z => by
    rw [z, ha] at f0
    cases f0
  intro k
  induction k with
  | zero =>
    intro i s acc c done hk hi I hP hacc hdone
    obtain ⟨_, its, n, rv, ho⟩ : vs.length ≤ sizeLine ∧ ∃ (its : List Value) (n : Nat), Vals vs its ∧ s.heap.get? a = some { cls := .type "list", data := .seq its.toArray n } := I.hok a _ ha
    have out : its.toArray[(i : Int).toNat]? = none := by
      have := rv.length
      simp
      omega
    have all : done.map (·.1) = ts := by
      rw [hdone, show i = ts.length by omega, List.take_length]
    refine codeAny_builtin F.entry_list_repr_loop ?_
    show wpAny _ _ (Builtin.«list.__repr__.loop» ⟨[.ref a, .int i 0, .ref P, .int ((piled (ts.take i) : Nat) : Int) 0], []⟩) _ _ s
    rw [repr_loop_tree]
    refine wpAny_bind (wpAny_listItems ho rfl ?_)
    simp only [out]
    unfold reprEnd
    refine wpAny_bind (wpAny_listItems hP rfl ?_)
    rw [hacc, repr_fold, all]
    exact wpAny_bind (wpAny_pure (wpAny_bind (wpAny_mkStr (wpAny_pure (hR _ _ (I.tok _))) hz)))
  | succ k ih =>
    intro i s acc c done hk hi I hP hacc hdone
    obtain ⟨_, its, n, rv, ho⟩ : vs.length ≤ sizeLine ∧ ∃ (its : List Value) (n : Nat), Vals vs its ∧ s.heap.get? a = some { cls := .type "list", data := .seq its.toArray n } := I.hok a _ ha
    have hv : i < vs.length := by omega
    obtain ⟨u, hu1, ru⟩ := rv.get (List.getElem?_eq_getElem hv)
    obtain ⟨t, ht, ok⟩ := hU.at (List.getElem?_eq_getElem hv)
    have got : its.toArray[(i : Int).toNat]? = some u := by simpa using hu1
    have p1 := piled_take_succ ht
    have p2 := piled_take_le ts (i + 1)
    obtain ⟨g1, g2, g3, g4⟩ := loop_under A ⟨[.ref a, rawInt i, .ref P, rawInt ((piled (ts.take i) : Nat) : Int)], []⟩
    refine codeAny_builtin F.entry_list_repr_loop ?_
    show wpAny _ _ (Builtin.«list.__repr__.loop» ⟨[.ref a, .int i 0, .ref P, .int ((piled (ts.take i) : Nat) : Int) 0], []⟩) _ _ s
    rw [repr_loop_tree]
    refine wpAny_bind (wpAny_listItems ho rfl ?_)
    simp only [got]
    rw [Int.toNat_natCast]
    refine wpAny_bind (wpAny_holding (wpAny_mono (ok (piled (ts.take i) + 1) _ s (fun x s' => x = t ∧ Inv X pins σ H s' ∧ s'.heap.get? P = some { cls := .type "list", dict := none, data := .seq acc c, slots := #[] }) u [rawInt i, .ref P, rawInt ((piled (ts.take i) : Nat) : Int)] (by omega) (guards_under_guard (isGuard_list_loop _) hg) (g1.trans hfr) (g2.trans hh) (by omega) (by omega) I ru
      fun s' I' kp => ⟨rfl, I', kp _ _ hP f0 fun z => ?_⟩) (fun x s1 hx1 => ?_) fun e s1 he => hx e s1 he))
    · exact (List.mem_cons.mp (I.stkSub _ z)).elim f1 f2
    obtain ⟨rfl, I1, hP1⟩ := hx1
    refine wpAny_bind (wpAny_mkStr ?_ (each x (List.mem_of_getElem? ht)))
    have small : acc.size ≤ sizeLine := by
      have e1 : acc.toList.length = acc.size := by simp
      have e2 : (strValues done).length = done.length := by simp [strValues]
      have e3 : done.length = (ts.take i).length := by rw [← hdone, List.length_map]
      have e4 := List.length_take (i := i) (l := ts)
      rw [hacc] at e1
      omega
    refine wpAny_bind ?_
    show wpAny _ _ (updateSeq P _) _ _ _
    refine wpAny_updateSeq hP1 rfl (wpAny_pure ⟨F.quiet_list_repr_loop _, ?_⟩) small
    rw [show ((i : Int) + 1) = ((i + 1 : Nat) : Int) by omega, show piled (ts.take i) + (x.length + 2) = piled (ts.take (i + 1)) by omega]
    have I2 : Inv X pins σ H { s1 with heap := s1.heap.update P (Obj.mapSeq (·.push (.str x s1.toks))), toks := s1.toks + 1 } := (I1.turned (t' := s1.toks + 1) (it := P) (fun b o hb e => (Heap.get?_update_other _ _ (Ne.symm hb)).trans e) f0 f1 f3 f4 f5)
    exact ih (i + 1) _ (acc.push (.str x s1.toks)) _ (done ++ [(x, s1.toks)]) (by omega) hv I2 (Heap.get?_update_self _ hP1 rfl) (by simp [hacc, strValues]) (by simp [List.take_add_one, ht, hdone])
end
/-- repr of a list whose values have texts of their own -/
def rReprU (tx : Hp → V → Str → Prop) : List V → Hp → VK → Prop := fun xs H Q => ∃ (a : Addr) (vs : List V) (ts : List Str), xs = [.ref a] ∧ H a = some (.lst vs) ∧ vs ≠ [] ∧ vs.length = ts.length ∧ (∀ (i : Nat) v t, vs[i]? = some v → ts[i]? = some t → tx H v t) ∧ (listText ts).length ≤ sizeLine ∧ Q (.str (listText ts)) H
theorem under_all {X : Cx} {pins : List (Addr × Obj)} {σ : L2.St} {H : Hp} {a : Addr} {tx : Hp → V → Str → Prop} (h : ∀ v t, tx H v t → UnderOk X pins σ H a v t) : ∀ {vs : List V} {ts : List Str}, vs.length = ts.length → (∀ (i : Nat) v t, vs[i]? = some v → ts[i]? = some t → tx H v t) → UnderAll X pins σ H a vs ts
  | [], [], _, _ => .nil
  | [], _ :: _, l, _ => absurd l (by simp)
  | _ :: _, [], l, _ => absurd l (by simp)
  | v :: vs, t :: ts, l, q => .cons (h v t (q 0 v t rfl rfl)) (under_all h (by simpa using l) fun i v' t' h1 h2 => q (i + 1) v' t' (by simpa using h1) (by simpa using h2))
theorem call_reprU {X : Cx} {j : Nat} {tx : Hp → V → Str → Prop} (hgd : X.A.guards = some []) (hr : Room j X.A) (htx : ∀ (pins : List (Addr × Obj)) (σ : L2.St) (H : Hp) (a : Addr) (v : V) (t : Str), tx H v t → UnderOk X pins σ H a v t) : CallR X (.builtin "repr") (rReprU tx) := by
  intro pins s σ H xs us Q I r h
  obtain ⟨a, vs, ts, rfl, ha, ne, hl, hT, hz, q⟩ := h
  obtain ⟨u, rfl, ru⟩ := vals1 r
  cases (show u = Value.ref a from ru)
  obtain ⟨_, its, n, rv, ho⟩ : vs.length ≤ sizeLine ∧ ∃ (its : List Value) (n : Nat), Vals vs its ∧ s.heap.get? a = some { cls := .type "list", data := .seq its.toArray n } := I.hok a _ ha
  have un := hr.units
  have dn := hr.depth
  obtain ⟨x, l, rfl⟩ : ∃ x l, its = x :: l := by
    cases rv with
    | nil => exact absurd rfl ne
    | cons _ _ => exact ⟨_, _, rfl⟩
  have P0 : (s.heap.push { cls := .type "list", data := .seq #[] }).get? s.heap.objs.size = some { cls := .type "list", dict := none, data := .seq #[] 0, slots := #[] } := Heap.get?_push_size _ rfl
  have I1 : Inv X pins σ H { s with heap := s.heap.push { cls := .type "list", data := .seq #[] } } := I.kept fun b o e => Heap.get?_push_of_some _ e
  have fp : FpOk X pins H s.heap.objs.size := I.fpOk (Nat.le_refl _) (I.hok.fresh (Nat.le_refl _))
  refine call_repr_slot (by omega) ⟨_, ho, rfl⟩ F.slot_list_repr.toG (wpAny_call (codeAny_call_builtin F.slot_list_repr.plain F.entry_list_repr (F.slot_list_repr.check _ _ _ _ _ _ _ _ ⟨_, ho, rfl⟩ (F.args_list_repr_1 _) ?_)))
  refine wpAny_list_repr_head hgd (fun _ _ _ hm => nomatch hm) ho rfl (wpAny_bind (m := newList []) (wpAny_newObj_type (wpAny_pure ⟨F.quiet_list_repr_loop _, ?_⟩)))
  refine loopU (X := X) (pins := pins) (σ := σ) (H := H) (P := s.heap.objs.size) (ts := ts) ?_ ?_ ?_ ?_ ?_ ha (under_all (fun v t => htx pins σ H a v t) hl hT) fp hz ?_ ?_ _ 0 _ #[] 0 [] rfl (Nat.zero_le _) I1 P0 rfl (by simp)
  · exact hgd
  · rfl
  · exact hr.hd
  · exact Nat.le_succ _
  · show X.A.units + 1 ≤ _
    omega
  · exact fun e s' he => he
  · exact fun s' u I' => ⟨listText ts, u, rfl, .str (listText ts), H, I', ⟨u, rfl⟩, q⟩
/-- a plain value, or an instance whose class says repr -/
theorem call_reprUI {X : Cx} {j k : Nat} {C : Addr} {sp : Sp} (hgd : X.A.guards = some []) (c : CalS X.prog X.w X.K X.mg X.base k C "__repr__" sp) (hr : Room j X.A) (hk : k + 2 ≤ j) :
    CallR X (.builtin "repr") (rReprU fun H v t => (flatV v = true ∧ (flatD v).showable = true ∧ (flatD v).shown.length ≤ sizeLine ∧ t = (flatD v).shown) ∨ ∃ (b dx : Addr) (fs : List (Str × V)), v = .ref b ∧ H b = some (.ins C dx fs) ∧ ∀ Q : VK, Q (.str t) H → sp [.ref b] H Q E0) := by
  obtain ⟨f, F, h1, h2⟩ := c
  refine call_reprU hgd hr fun pins σ H a v t h => ?_
  rcases h with ⟨f1, f2, f3, rfl⟩ | ⟨b, dx, fs, rfl, hb, q⟩
  · exact UnderOk.flat f1 f2 f3
  · exact UnderOk.inst h1 h2 F (hr.mono hk) hb q
/-- tuple(x) of a list: a new tuple, and no more -/
theorem call_tupleF {X : Cx} : CallR X (.type "tuple") (fun xs H Q => ∃ p ys, xs = [.ref p] ∧ SqL X.K H p ys ∧ ∀ l o, H l = none → TupO o → Q (.ref l) (upd H l (.frz o (.tup ys)))) := by
  intro pins s σ H xs us Q I r h
  obtain ⟨p, ys, rfl, hq, q⟩ := h
  obtain ⟨u, rfl, rx⟩ := vals1 r
  cases (show u = Value.ref p from rx)
  obtain ⟨its, rv, pl, hz⟩ := I.list hq
  have small := rv.length
  refine call_tuple_list pl.isList (fun h' kp => ?_) (by simp only [List.size_toArray] <;> omega)
  have J := I.kept (t' := s.toks) kp
  have J2 := J.laid (t' := s.toks) (o := .frz ({ cls := .type "tuple", data := .seq its.toArray } : Obj) (.tup ys)) (fun b o e => Heap.get?_push_of_some ({ cls := .type "tuple", data := .seq its.toArray } : Obj) e) (Nat.le_refl _) ⟨Heap.get?_push_size _ rfl, hz, its, rv, ⟨_, Heap.get?_push_size _ rfl, rfl, _, rfl⟩⟩
  exact ⟨.ref h'.objs.size, _, J2, rfl, q _ _ (J.hok.fresh (Nat.le_refl _)) ⟨rfl, rfl⟩⟩
end UL
set_option Elab.async false
set_option linter.all false
set_option maxRecDepth 100000
set_option maxHeartbeats 4000000
/-! ### isinstance(e, C) of a caught error with a dict, true or false; repr of a list by either way -/
namespace UL
open PySem PySem.Spec PyProof.Rows L2
/-- isinstance(e, c), e the error of class C that the suite holds, its names in a dict -/
def rIsB (K : PySem.W.Frag) (C a : Addr) (cls : Value) (d : Option Addr) : List V → Hp → VK → Prop := fun xs H Q => ∃ (c : V) (cv : Value) (b : Bool) (da : Addr) (gs : List (Str × V)), xs = [.ref a, c] ∧ (∀ u, RelV c u → u = cv) ∧ cls = .ref C ∧ PySem.W.kitOne K (.ref C) cv = some b ∧ d = some da ∧ H da = some (.xd gs) ∧ Q (.bl b) H
theorem call_isB {X : Cx} {C a : Addr} {cls : Value} {d : Option Addr} {oe : Obj} {pn : List (Addr × Obj)} (EC : ExcC X.K C) (hz : Zc cls d oe) (hf : ∃ vs, oe.data = .fields vs) : CallR (X.suite a ((a, oe) :: pn)) (.builtin "isinstance") (rIsB X.K C a cls d) := by
  intro pins s σ H xs us Q I r h
  obtain ⟨c, cv, b, da, fs, rfl, hcv, rfl, e, rfl, hda, q⟩ := h
  obtain ⟨u1, u2, rfl, r1, r2⟩ := vals2 r
  cases (show u1 = Value.ref a from r1)
  obtain rfl := hcv _ r2
  obtain ⟨hget, _⟩ := I.pin (a, oe) (List.mem_append.mpr (.inl List.mem_cons_self))
  obtain ⟨vs, hv⟩ := hf
  obtain ⟨mA, ⟨od, es, ep, ed, hcc⟩, _⟩ := (show ∃ mA, s.heap.Ns1 da mA ∧ ∀ f, RelO (fs.lookup f) (mA f) from I.hok da _ hda)
  have J : PySem.W.InstAt s.heap a oe C (some od) := by
    obtain ⟨oc, odi, oda, osl⟩ := oe
    obtain ⟨h1, h2⟩ := hz
    dsimp only at h1 h2 hv
    subst h1 h2 hv
    exact ⟨hget, rfl, rfl, ed⟩
  have hcl : (PySem.W.clsIn X.K C).isSome = true := by
    obtain ⟨cd, hc, _⟩ := PySem.W.any_some EC.hd
    rw [hc]
    rfl
  exact PySem.W.kia_one (PySem.W.kitx_exc hcl EC.hg EC.hk EC.hs EC.ha EC.hn EC.ht EC.hm) I.kIn J e (fun z => nomatch z) fun tk => ⟨.bl b, H, I.kept (t' := tk) fun _ _ z => z, rfl, q⟩
/-- by either way -/
theorem call_or {X : Cx} {f : Value} {r1 r2 : List V → Hp → VK → Prop} (h1 : CallR X f r1) (h2 : CallR X f r2) : CallR X f (fun xs H Q => r1 xs H Q ∨ r2 xs H Q) := by
  intro pins s σ H xs us Q I r h
  rcases h with h | h
  · exact h1 pins s σ H xs us Q I r h
  · exact h2 pins s σ H xs us Q I r h
/-- what repr says of a plain value or of an instance -/
def TxUI (C : Addr) (sp : Sp) : Hp → V → Str → Prop := fun H v t => (flatV v = true ∧ (flatD v).showable = true ∧ (flatD v).shown.length ≤ sizeLine ∧ t = (flatD v).shown) ∨ ∃ (b dx : Addr) (fs : List (Str × V)), v = .ref b ∧ H b = some (.ins C dx fs) ∧ ∀ Q : VK, Q (.str t) H → sp [.ref b] H Q E0
def rReprA (K : PySem.W.Frag) (C : Addr) (sp : Sp) : List V → Hp → VK → Prop := fun xs H Q => rReprT K xs H Q ∨ rReprU (TxUI C sp) xs H Q
theorem call_reprA {X : Cx} {j k : Nat} {C : Addr} {sp : Sp} (hgd : X.A.guards = some []) (c : CalS X.prog X.w X.K X.mg X.base k C "__repr__" sp) (hr : Room j X.A) (hk : k + 2 ≤ j) : CallR X (.builtin "repr") (rReprA X.K C sp) :=
  call_or (call_reprT hgd hr.units) (call_reprUI hgd c hr hk)
/-- _law_draw(pot, n), n up to 2^130 -/
def spDrawW : Sp := fun vs H Q _ => ∃ (p : Addr) (n : Int), vs = [.ref p, .int n] ∧ Pot H p ∧ 0 < n ∧ n < 1361129467683753853853498429727072845824 ∧
  ∀ (d : Int) (H' : Hp), 0 ≤ d → d < n → Pot H' p → Stay p H H' → Q (.int d) H'
theorem nopy {x n : Int} (h0 : 0 < n) (h1 : n < 1361129467683753853853498429727072845824) : Builtin.divisionGoesByPylong x n = false := PyProof.noPylong_of_log2 (by
  have : n.natAbs.log2 < 130 := (Nat.log2_lt (by omega)).mpr (by omega)
  omega)
/-! ### o.m(k = v, ..) that may raise -/
def CalMKE (P : Program) (w : World) (K : PySem.W.Frag) (mg : Str → Option Value) (base : Heap) (k : Nat) (C : Addr) (m : Str) (ks : List Str) (gV : List V → List V → List V) (sp : Sp) : Prop := ∃ f fd ps g, FnOk P w K mg base (L2.CX P w) k f fd ps sp ∧ Cls K C ∧ Meth K C m f ∧ KBn K fd ps 1 ks g gV
def tMethKE (C : Addr) (m : Str) (n : Nat) (gV : List V → List V → List V) (sp : Sp) (E : XK) (ta : TE) (tk : TA) : TE := fun σ H Q => ta σ H fun x H1 => ∃ a dx fs, x = .ref a ∧ H1 a = some (.ins C dx fs) ∧ fs.lookup m = none ∧ tk σ H1 fun zs H2 => zs.length = n ∧ sp (gV [x] zs) H2 Q E
section
variable {X : Cx} {k j : Nat} {m : Str} {C : Addr} {sp : Sp} {o : Expr} {kws : List Keyword} {ks : List Str} {gV : List V → List V → List V} {tk : TA} {ta : TE} {pos apos : Pos} {E : XK}
theorem pe_mKE {pl : Sem Bool} (he : PE X o ta) (c : CalMKE X.prog X.w X.K X.mg X.base k C m ks gV sp) (px : Passes (L2.CX X.prog X.w) X E) (hr : Room j X.A) (hk : k ≤ j) (hkw : PK X kws tk)
    (hall : (backToKw pos (keywordEach kws X.env)).all (·.1.isSome) = true := by rfl) (hks : (backToKw pos (keywordEach kws X.env)).filterMap (·.1) = ks := by rfl)
    (hpl : ((backTo pos (starEach [] X.env)).any (·.1) || (backToKw pos (keywordEach kws X.env)).any (·.1.isNone)) = false := by rfl)
    (ht : eval (.Call (.Attribute o m apos) [] kws pos) X.env = (do
      let ov ← eval o X.env
      standAt apos.atName
      let (fv, fi) ← holding [ov] (getMethod ov m pl)
      callWith pos fv fi (backTo pos (starEach [] X.env)) (backToKw pos (keywordEach kws X.env))) := by rfl) :
    PE X (.Call (.Attribute o m apos) [] kws pos) (tMethKE C m ks.length gV sp E ta tk) := by
  obtain ⟨f, fd, ps, g, F, cl, mt, b⟩ := c
  refine ⟨fun pins s σ H Q I h => ?_⟩
  refine PySem.W.methodCall_KW (pl := pl) (thn (he.run pins s σ H _ I h) fun u s1 ⟨x, H1, I1, rx, a, dx, fs, ex, ea, l, q⟩ => ?_) ht
  subst ex
  obtain rfl : u = Value.ref a := rx
  refine getmeth_ok I1 ea cl mt l ?_
  refine PySem.W.callWith_KW0 (first := [.ref a]) (h₀ := X.base) I.ok.mod.kin mt.kp hall ?_ hpl
  refine thn (hkw.run pos pins s1 σ H1 _ I1 q) fun ws s3 ⟨zs, H2, I3, rz, l2, q2⟩ => ⟨I3.kIn, ?_⟩
  rw [hks]
  exact run_fnN (us := [.ref a]) (vs := [.ref a]) F (hr.mono hk) b px I3 (.cons rfl .nil) rz rfl l2 q2
end
end UL
set_option Elab.async false
set_option linter.all false
set_option maxRecDepth 100000
set_option maxHeartbeats 4000000
/-! ### list(range(a, b)) of great numbers -/
namespace UL
open PySem
open Sem (wp)
section
variable {prog : Program} {w : World} {A : Around} {E : Value → Shared → Prop} {s : Shared}
/-- what the list's row is behind it -/
def LrRow (n : Nat) (a c : Int) (S : Addr) (h h' : Heap) (acc : Array Value) (cap : Nat) : Prop := (∀ b o, b ≠ S → h.get? b = some o → h'.get? b = some o) ∧ h'.get? S = some { cls := .type "list", dict := none, data := .seq acc cap, slots := #[] } ∧ ItemsOf (fun i v => ∃ t, v = .int (a + i * c) t) acc n
theorem lr_extend {R : Result → Shared → Prop} {r : Addr} {a b c : Int} {t u v : Tok} {n : Nat} (hh : A.handled = none) (hr : IsRange s.heap r a b c t u v) (hl : Builtin.Range.small a b c = false) (hn : Builtin.Range.rangeSize a b c = n) (h24 : n ≤ 2 ^ 24)
    (S : Addr) (res : Value) (c0 : Nat) (hS : s.heap.get? S = some { cls := .type "list", data := .seq #[] c0 }) (k : ∀ h' tk acc cap, LrRow n a c S s.heap h' acc cap → R (.ok (.ret res)) { s with heap := h', toks := tk }) :
    wpAny (model prog w) A.in1 (Builtin.List.listExtendWith (.ref S) (.ref r) res) (fun fin s' => match fin with | .done f => R (.ok f) s' | .again cd => cd.quiet = true ∧ codeAny (model prog w) A cd R s') (fun e s' => R (.error e) s') s := by
  have nr : S ≠ r := fun e => by
    rw [e, hr] at hS
    simp at hS
  have lt : S < s.heap.objs.size := Heap.lt_size hS
  have nI : S ≠ s.heap.objs.size := Nat.ne_of_lt lt
  have nf : S ∉ [s.heap.objs.size] := fun m => nI (List.mem_singleton.mp m)
  have W := (Walks.longrange (prog := prog) (w := w) (A := A.in1) hh s.heap.objs.size a c n).toS
  have key : ∀ (h : Heap) (c1 tk : Nat), IsLongIter h s.heap.objs.size (a + ((0 : Nat) : Int) * c) ((n : Int) - ((0 : Nat) : Int)) c → (∀ b o, b ≠ S → s.heap.get? b = some o → h.get? b = some o) → h.get? S = some { cls := .type "list", data := .seq #[] c1 } →
      codeAny (model prog w) A (.builtin "list.extend.loop" ⟨[.ref S, .ref s.heap.objs.size, res], []⟩) R { s with heap := h, toks := tk } := fun h c1 tk hit hk h1 => by
    refine codeAny_extend_loopS W (by rw [sizeLine_eq]; omega) S nf res n 0 _ #[] c1 rfl (Nat.zero_le _) hit h1 (ItemsOf.nil _) fun s' acc cap hm hS' hacc => ?_
    rw [Moved.eq_with hm]
    refine k s'.heap s'.toks acc cap ⟨fun b o hb e => hm.heap b o (fun mem => ?_) (hk b o hb e), hS', hacc⟩
    rcases List.mem_cons.mp mem with z | mem
    · exact hb z
    · exact absurd (Heap.lt_size e) (by rw [List.mem_singleton.mp mem]; exact Nat.lt_irrefl _)
  unfold Builtin.List.listExtendWith
  refine wpAny_bind (wpAny_typeOf (T := "range") ⟨_, hr, rfl⟩ ?_)
  have q1 : Builtin.List.listSameRef (.ref S) (.ref r) = false := by simp [Builtin.List.listSameRef, nr]
  have q2 : (Value.type "range" == Value.type "list") = false := by decide
  have q3 : (Value.type "range" == Value.type "tuple") = false := by decide
  simp only [q1, q2, q3, Bool.or_false, Bool.false_eq_true, if_false]
  refine wpAny_bind (wpAny_pyIter_longrange hr hl ?_)
  refine wpAny_bind (wpAny_holding (wpAny_hint_range (n := n) (Heap.get?_push_of_some _ hr) hn h24 ?_))
  have it1 : IsLongIter (s.heap.push { cls := .type "longrange_iterator", data := .fields #[rawInt a, rawInt (Builtin.Range.rangeSize a b c), rawInt c] }) s.heap.objs.size (a + ((0 : Nat) : Int) * c) ((n : Int) - ((0 : Nat) : Int)) c := by
    show IsLongIter _ _ _ _ _
    rw [hn]
    simpa using Heap.get?_push_size _ rfl
  have S1 := Heap.get?_push_of_some { cls := .type "longrange_iterator", data := .fields #[rawInt a, rawInt (Builtin.Range.rangeSize a b c), rawInt c] } hS
  refine wpAny_ite_split (fun _ => ?_) (fun _ => wpAny_pure ⟨plainId_quiet F.plain_extend_loop _, key _ c0 _ it1 (fun b o _ e => Heap.get?_push_of_some _ e) S1⟩)
  refine wpAny_bind (wpAny_rule (wpAny_bind ?_))
  show wpAny _ _ (updateSeq S (fun z => z.push .none) >>= fun _ => updateSeq S (fun z => z.pop)) _ _ _
  refine wpAny_bind (wpAny_updateSeq S1 rfl ?_)
  have S2 := Heap.get?_update_self (Obj.mapSeq (·.push Value.none)) S1 rfl
  refine wpAny_updateSeq (hz := by seq_fits) S2 rfl ?_
  have S3 := Heap.get?_update_self (Obj.mapSeq (·.pop)) S2 rfl
  refine wpAny_pure ⟨plainId_quiet F.plain_extend_loop _, key _ _ _ ?_ (fun b o hb e => ?_) S3⟩
  · exact (Heap.get?_update_other _ _ nI).trans ((Heap.get?_update_other _ _ nI).trans it1)
  · exact (Heap.get?_update_other _ _ (Ne.symm hb)).trans ((Heap.get?_update_other _ _ (Ne.symm hb)).trans (Heap.get?_push_of_some _ e))
theorem lr_init {R : Result → Shared → Prop} {r : Addr} {a b c : Int} {t u v : Tok} {n : Nat} (hh : A.handled = none) (hr : IsRange s.heap r a b c t u v) (hl : Builtin.Range.small a b c = false) (hn : Builtin.Range.rangeSize a b c = n) (h24 : n ≤ 2 ^ 24) (S : Addr)
    (S0 : s.heap.get? S = some { cls := .type "list", data := .seq #[] }) (k : ∀ h' tk acc cap, LrRow n a c S s.heap h' acc cap → R (.ok (.ret .none)) { s with heap := h', toks := tk }) :
    wpAny (model prog w) A.in1 (Builtin.«list.__init__» ⟨[.ref S, .ref r], []⟩) (fun fin s' => match fin with | .done f => R (.ok f) s' | .again cd => cd.quiet = true ∧ codeAny (model prog w) A cd R s') (fun e s' => R (.error e) s') s := by
  have nr : S ≠ r := fun e => by
    rw [e, hr] at S0
    simp at S0
  show wpAny _ _ (Builtin.List.listItems (.ref S) >>= fun old => Builtin.List.listUpdate (.ref S) (fun _ => #[]) >>= fun _ => letGo old.toList.reverse >>= fun _ => Builtin.List.listExtendWith (.ref S) (.ref r) .none) _ _ s
  refine wpAny_bind ?_
  unfold Builtin.List.listItems
  refine wpAny_bind (wpAny_seqItems S0 rfl (wpAny_pure ?_))
  show wpAny _ _ (updateSeq S (fun _ => #[]) >>= fun _ => letGo ([] : List Value) >>= fun _ => Builtin.List.listExtendWith (.ref S) (.ref r) .none) _ _ s
  refine wpAny_bind (wpAny_updateSeq S0 rfl ?_)
  have S2 := Heap.get?_update_self (Obj.mapSeq (fun _ => (#[] : Array Value))) S0 rfl
  have oth : ∀ b o, b ≠ S → s.heap.get? b = some o → (s.heap.update S (Obj.mapSeq (fun _ => (#[] : Array Value)))).get? b = some o := fun b o hb e => (Heap.get?_update_other _ _ (Ne.symm hb)).trans e
  refine wpAny_bind (wpAny_letGo ?_)
  exact lr_extend hh (oth r _ (Ne.symm nr) hr) hl hn h24 S .none _ S2 fun h' tk acc cap z => k h' tk acc cap ⟨fun b o hb e => z.1 b o hb (oth b o hb e), z.2⟩
theorem lr_list {Q : Value → Shared → Prop} {r : Addr} {a b c : Int} {t u v : Tok} {n : Nat} (hh : A.handled = none) (hr : IsRange s.heap r a b c t u v) (hl : Builtin.Range.small a b c = false) (hn : Builtin.Range.rangeSize a b c = n) (h24 : n ≤ 2 ^ 24)
    (k : ∀ h' tk acc cap, (∀ b o, s.heap.get? b = some o → h'.get? b = some o) → h'.get? s.heap.objs.size = some { cls := .type "list", dict := none, data := .seq acc cap, slots := #[] } → ItemsOf (fun i v => ∃ t, v = .int (a + i * c) t) acc n → Q (.ref s.heap.objs.size) { s with heap := h', toks := tk }) :
    wpAny (model prog w) A (call (.type "list") [.ref r]) Q E s := by
  refine callType_codes (Q₁ := fun obj s1 => obj = .ref s.heap.objs.size ∧ s1 = { s with heap := s.heap.push { cls := .type "list", data := .seq #[] } }) F.called_list (F.typeCall_list_1 _) F.entry_list_init (code_list_new _ ⟨rfl, rfl⟩) fun obj s1 z => ?_
  obtain ⟨rfl, rfl⟩ := z
  have S0 : (s.heap.push { cls := .type "list", data := .seq #[] }).get? s.heap.objs.size = some { cls := .type "list", data := .seq #[] } := Heap.get?_push_size _ rfl
  exact ⟨⟨_, S0, rfl⟩, F.args_list_init_2 _ _, lr_init (A := A.in1) hh (Heap.get?_push_of_some _ hr) hl hn h24 _ S0 fun h' tk acc cap z => ⟨rfl, k h' tk acc cap (fun b o e => z.1 b o (Nat.ne_of_lt (Heap.lt_size e)) (Heap.get?_push_of_some _ e)) z.2.1 z.2.2⟩⟩
end
end UL
namespace UL
open PySem PySem.Spec PyProof.Rows L2
section
variable {X : Cx} {e : Expr} {te : L2.St → Hp → (Int → Int → Hp → Prop) → Prop}
/-- list(range(a, b)), numbers of any size, not too many -/
def tLstRgA (te : L2.St → Hp → (Int → Int → Hp → Prop) → Prop) : TE := fun σ H Q => te σ H fun a b H1 => (b - a).toNat ≤ 16777216 ∧ ∀ q, H1 q = none → Q (.ref q) (upd H1 q (.lst (rgV a b)))
theorem pe_listRgA {p pos : Pos} (hc : X.calm = true) (hg : Gl X "list") (hm : X.mg "list" = none) (he : PRg X e te) (na : starEach [e] X.env = (false, eval e X.env) :: starEach [] X.env := by rfl) : PE X (.Call (.Name "list" p) [e] [] pos) (tLstRgA te) := by
  constructor
  intro pins s σ H Q I h
  refine Call_ (ld_blt I hg hm boot_list (PyProof.Rows.callWith_type1 (args_cons (thn (he pins s σ H _ I h) fun x s1 z => args_nil ?_) na) na))
  obtain ⟨r, a, b, t, u, v, H1, ex, hr, I1, n24, q⟩ := z
  subst ex
  have fin : ∀ (h' : Heap) (tk : Nat) (acc : Array Value) (cap : Nat), (∀ b o, s1.heap.get? b = some o → h'.get? b = some o) → h'.get? s1.heap.objs.size = some { cls := .type "list", dict := none, data := .seq acc cap, slots := #[] } → ItemsOf (fun i v => ∃ t, v = .int (a + i * 1) t) acc (b - a).toNat →
      EP X pins σ Q (.ref s1.heap.objs.size) { s1 with heap := h', toks := tk } := fun h' tk acc cap hk hS hi => by
    refine ⟨.ref s1.heap.objs.size, upd H1 s1.heap.objs.size (.lst (rgV a b)), I1.laid hk (Nat.le_refl _) ?_, rfl, q _ (I1.hok.fresh (Nat.le_refl _))⟩
    exact ⟨by rw [rgV_length, sizeLine_eq]; omega, acc.toList, cap, vals_rg hi, by rw [Array.toArray_toList]; exact hS⟩
  cases sm : Builtin.Range.small a b 1 with
  | true => exact call_list_range (n := (b - a).toNat) (I1.ok.hd hc) hr sm (rangeSize_nat a b) (by omega) fin
  | false => exact lr_list (n := (b - a).toNat) (I1.ok.hd hc) hr sm (rangeSize_nat a b) (by omega) fin
end
end UL
/-! ### own - beside a built-in type, own += and -= -/
namespace UL
open PySem PySem.Spec PyProof.Rows L2
open PySem.W (Looks Frag findIn clsIn InstAt)
theorem du_sub : PySem.dunder "sub" = ("__sub__" : Str) := by decide +kernel
theorem di_sub : dunderI "sub" = ("__isub__" : Str) := by decide +kernel
/-- the class at C and its base have no own nm in place -/
structure NoI (K : Frag) (C : Addr) (nm : String) : Prop where
  no : ∃ cd D, clsIn K C = some cd ∧ cd.mro = [.ref C, .ref D, .type "object"] ∧ findIn K (.ref D) (dunderI nm) = some none
  h1 : findIn K (.ref C) (dunderI nm) = some none
  h2 : findIn K (.type "object") (dunderI nm) = some none
theorem fillsI_three {K : Frag} {C : Addr} {M : Model} {h : Heap} {nm : String} {add : Bool} (X : K.In h) (n : NoI K C nm) : Looks M h (fillsInplaceSlot (.ref C) nm add) false := by
  obtain ⟨⟨cd, D, hc, hm, d1⟩, h1, o1⟩ := n
  intro A Q E s k q
  unfold fillsInplaceSlot
  refine wpAny_bind ((PySem.W.looks_clsIn X hc).andThen (f := fun cd => pure cd.mro) .now A _ E s k ?_)
  rw [hm]
  rw [List.anyM_cons]
  refine wpAny_bind (wpAny_bind (PySem.W.looks_findIn X h1 A _ E s k (wpAny_pure ?_)))
  rw [if_neg (by simp)]
  rw [List.anyM_cons]
  refine wpAny_bind (wpAny_bind (PySem.W.looks_findIn X d1 A _ E s k (wpAny_pure ?_)))
  rw [if_neg (by simp)]
  rw [List.anyM_cons]
  refine wpAny_bind (wpAny_bind (PySem.W.looks_findIn X o1 A _ E s k (wpAny_pure ?_)))
  rw [if_neg (by simp)]
  exact wpAny_pure q
section
variable {prog : Program} {w : World} {A : Around} {E : Value → Shared → Prop} {s : Shared} {K : PySem.W.Frag} {x C f : Addr} {ox : Obj} {od : Option Obj} {T : String} {b : Value} {Q : Value → Shared → Prop}
theorem inop_add (KX : K.In s.heap) (J : InstAt s.heap x ox C od) (hb : Looks (model prog w) s.heap (typeOf b) (.type T)) (n : NoI K C "add") (o : OwnT K C T "add") (hs : findIn K (.ref C) "__add__" = some (some (.ref f))) (hf : PySem.W.isFn K (.ref f) = true)
    (h : wpAny (model prog w) A (call (.ref f) [.ref x, b]) (PySem.W.CmpBack Q) E s) : wpAny (model prog w) A (inplaceOp .Add (.ref x) b) Q E s := by
  unfold inplaceOp
  refine wpAny_holding (wpAny_bind (J.type.here (wpAny_bind ((fillsI_three (nm := "add") KX n).here ?_))))
  rw [if_neg (by simp)]
  refine wpAny_bind (bin1_type (nm := "add") KX J hb o (by rw [du_add]; exact hs) hf (wpAny_mono h (fun v s' z => ?_) fun _ _ e => e))
  cases v <;> first | exact z.elim | exact wpAny_pure z
theorem inop_sub (KX : K.In s.heap) (J : InstAt s.heap x ox C od) (hb : Looks (model prog w) s.heap (typeOf b) (.type T)) (n : NoI K C "sub") (o : OwnT K C T "sub") (hs : findIn K (.ref C) "__sub__" = some (some (.ref f))) (hf : PySem.W.isFn K (.ref f) = true)
    (h : wpAny (model prog w) A (call (.ref f) [.ref x, b]) (PySem.W.CmpBack Q) E s) : wpAny (model prog w) A (inplaceOp .Sub (.ref x) b) Q E s := by
  unfold inplaceOp
  refine wpAny_holding (wpAny_bind (J.type.here (wpAny_bind ((fillsI_three (nm := "sub") KX n).here ?_))))
  rw [if_neg (by simp)]
  refine wpAny_bind (bin1_type (nm := "sub") KX J hb o (by rw [du_sub]; exact hs) hf (wpAny_mono h (fun v s' z => ?_) fun _ _ e => e))
  cases v <;> first | exact z.elim | exact wpAny_pure z
end
section
variable {X : Cx} {CX : CXT} {C g : Addr} {n k j : Nat} {sp : Sp} {E : XK} {T : String}
theorem op_subST (c : CalS X.prog X.w X.K X.mg X.base k C "__sub__" sp) (o : OwnT X.K C T "sub") (hr : Room j X.A) (hk : k ≤ j) : OpR X (binaryOp .Sub) (rOpT C T sp E0) := by
  obtain ⟨f, F, h1, h2⟩ := c
  exact op_ownT (op := .Sub) o (by show findIn X.K (.ref C) (PySem.dunder "sub") = _; rw [du_sub]; exact h1) h2 F (hr.mono hk) pass0
theorem iop_any {op : Operator} (hF : FnR X.prog X.w X.K X.mg X.base CX n g sp) (hr : Room n X.A) (hx : Passes CX X E)
    (hop : ∀ {s : Shared} {a : Addr} {oa : Obj} {od : Option Obj} {u : Value} {Q : Value → Shared → Prop}, X.K.In s.heap → InstAt s.heap a oa C od → Looks (model X.prog X.w) s.heap (typeOf u) (.type T) → wpAny (model X.prog X.w) X.A (call (.ref g) [.ref a, u]) (PySem.W.CmpBack Q) X.xe s → wpAny (model X.prog X.w) X.A (inplaceOp op (.ref a) u) Q X.xe s) :
    OpR X (inplaceOp op) (rOpT C T sp E) := by
  intro pins s σ H x y v u Q I rx ry h
  obtain ⟨a, dx, fs, rfl, ha, ty, q⟩ := h
  cases (show v = Value.ref a from rx)
  obtain ⟨mA, O, _⟩ := ins_get I.hok ha
  obtain ⟨od, J, _⟩ := O.look
  refine hop I.kIn J (Looks.of_pure (ty u ry)) ?_
  refine wpAny_mono (wpAny_call (run_fnR (us := [.ref a, u]) (vs := [.ref a, y]) hF hr hx I (.cons rfl (.cons ry .nil)) q)) (fun r s' z => ?_) fun _ _ e => e
  obtain ⟨z', H', I', rz, qz⟩ := z
  exact SlX.cmpback rz ⟨z', H', I', rz, qz⟩
theorem iop_addST (c : CalS X.prog X.w X.K X.mg X.base k C "__add__" sp) (o : OwnT X.K C T "add") (i : NoI X.K C "add") (hr : Room j X.A) (hk : k ≤ j) : OpR X (inplaceOp .Add) (rOpT C T sp E0) := by
  obtain ⟨f, F, h1, h2⟩ := c
  exact iop_any F (hr.mono hk) pass0 fun KX J hb h => inop_add KX J hb i o h1 h2 h
theorem iop_subST (c : CalS X.prog X.w X.K X.mg X.base k C "__sub__" sp) (o : OwnT X.K C T "sub") (i : NoI X.K C "sub") (hr : Room j X.A) (hk : k ≤ j) : OpR X (inplaceOp .Sub) (rOpT C T sp E0) := by
  obtain ⟨f, F, h1, h2⟩ := c
  exact iop_any F (hr.mono hk) pass0 fun KX J hb h => inop_sub KX J hb i o h1 h2 h
end
end UL
/-! ### == with a built-in value on the left, an instance with an own __eq__ on the right -/
namespace UL
open PySem PySem.Spec PyProof.Rows L2 PySem.SeqAt
open PySem.W (Looks Frag findIn clsIn InstAt)
section
variable {prog : Program} {w : World} {A : Around} {E : Value → Shared → Prop} {s : Shared} {K : PySem.W.Frag} {y C f : Addr} {oy : Obj} {od : Option Obj} {T : String} {x : Value}
/-- x's type has no answer -/
def Decl (prog : Program) (w : World) (A : Around) (E : Value → Shared → Prop) (s : Shared) (x : Value) (y : Addr) : Prop := wpAny (model prog w) A (tryCompare x "__eq__" (.ref y)) (fun r s' => r = none ∧ s' = s) E s
theorem eq_right {Q : Value → Shared → Prop} (hu : A.units < cLine) (KX : K.In s.heap) (J : InstAt s.heap y oy C od) (tx : s.TypeIs x T) (d : Decl prog w A E s x y) (su : PySem.W.subIn K (.ref C) (.type T) = some false)
    (hs : findIn K (.ref C) "__eq__" = some (some (.ref f))) (hf : PySem.W.isFn K (.ref f) = true) (h : wpAny (model prog w) A (call (.ref f) [.ref y, x]) (PySem.W.CmpBack Q) E s) : wpAny (model prog w) A (richCompare .Eq x (.ref y)) Q E s := by
  have one : wpAny (model prog w) A (tryCompare (.ref y) "__eq__" x) (fun r s' => ∃ v, r = some v ∧ Q v s') E s := by
    unfold tryCompare
    refine wpAny_bind (PySem.W.ifBound_K KX J hs hf (wpAny_mono h (fun v s' hv => ?_) fun _ _ e => e))
    cases v <;> first | exact hv.elim | exact wpAny_pure ⟨_, rfl, hv⟩
  simp only [richCompare, cmpInfo_Eq, tx.oneThing_none]
  refine wpAny_holding (wpAny_bind (wpAny_cRoomFor hu ?_))
  refine wpAny_bind (wpAny_typeOf tx (wpAny_bind (J.type.here ?_)))
  split
  · refine wpAny_bind ((PySem.W.looks_subIn KX su).here ?_)
    simp only [Bool.false_eq_true, if_false, Bool.not_false, if_true]
    refine wpAny_bind (m := tryCompare x _ (.ref y)) (wpAny_mono d (fun r s1 z => ?_) fun _ _ e => e)
    obtain ⟨z1, z2⟩ := z
    subst z1 z2
    refine wpAny_bind (m := tryCompare (.ref y) _ x) (wpAny_mono one (fun r s2 z => ?_) fun _ _ e => e)
    obtain ⟨v, rfl, hq⟩ := z
    exact wpAny_pure hq
  · rename_i q
    exact absurd (by simp) q
theorem decl_none : Decl prog w A E s .none y :=
  wpAny_tryCompare_declines (show s.TypeIs .none "NoneType" from rfl) F.slot_NoneType_eq_refl (call_gives F.slot_NoneType_eq_refl rfl F.entry_NoneType_eq (F.args_NoneType_eq_2 _ _) (NoneType___eq___none_ref_0 y) ⟨rfl, rfl, rfl⟩)
theorem int_meets (b : Int) (u : Tok) (l C dx : Addr) : Meets (Builtin.«int.__eq__» ⟨[.int b u, .ref l], []⟩) (fun _ R s => s.heap.get? l = some { cls := .ref C, dict := some dx, data := .plain, slots := #[] } ∧ R (.ok (.ret .notImplemented)) s) :=
  .of_wp fun prog w A R s h => by
    obtain ⟨hp, g, d, tk, os⟩ := s
    obtain ⟨hl, h⟩ := h
    wp_walk using AutoSeq1.wpAny_loadPart' hl, wpAny_load hl
    exact ⟨_, rfl, h⟩
theorem str_meets (b : Str) (u : Tok) (l C dx : Addr) : Meets (Builtin.«str.__eq__» ⟨[.str b u, .ref l], []⟩) (fun _ R s => s.heap.get? l = some { cls := .ref C, dict := some dx, data := .plain, slots := #[] } ∧ R (.ok (.ret .notImplemented)) s) :=
  .of_wp fun prog w A R s h => by
    obtain ⟨hp, g, d, tk, os⟩ := s
    obtain ⟨hl, h⟩ := h
    wp_walk using AutoSeq1.wpAny_loadPart' hl, wpAny_load hl
    exact ⟨_, rfl, h⟩
theorem decl_int {b : Int} {u : Tok} {dx : Addr} (hy : s.heap.get? y = some (PySem.W.instObj C dx)) : Decl prog w A E s (.int b u) y :=
  wpAny_tryCompare_declines (typeIs_int s b u) F.slot_int_eq (call_meets F.slot_int_eq (typeIs_int s b u) F.entry_int_eq (F.args_int_eq_2 _ _) (int_meets b u y C dx) ⟨hy, rfl, rfl, rfl⟩)
theorem decl_str {b : Str} {u : Tok} {dx : Addr} (hy : s.heap.get? y = some (PySem.W.instObj C dx)) : Decl prog w A E s (.str b u) y :=
  wpAny_tryCompare_declines (typeIs_str s b u) F.slot_str_eq (call_meets F.slot_str_eq (typeIs_str s b u) F.entry_str_eq (F.args_str_eq_2 _ _) (str_meets b u y C dx) ⟨hy, rfl, rfl, rfl⟩)
theorem decl_list {l : Addr} {items : Array Value} (KX : K.In s.heap) (J : InstAt s.heap y oy C od) (su : PySem.W.subIn K (.ref C) (.type "list") = some false) (hl : s.heap.IsList l items) : Decl prog w A E s (.ref l) y := by
  obtain ⟨⟨cls, dd, data, sl⟩, ho, hc, n, hd⟩ := id hl
  simp only at hc hd
  subst hc hd
  refine wpAny_tryCompare_declines ⟨_, ho, rfl⟩ F.slot_list_eq (wpAny_call_entry F.slot_list_eq ⟨_, ho, rfl⟩ F.entry_list_eq ?_ (F.args_list_eq_2 _ _))
  have hi : Looks (model prog w) s.heap (isInstance (.ref y) (.type "list")) false := J.type.andThen (PySem.W.looks_subIn KX su)
  obtain ⟨hp, g, d, tk, os⟩ := s
  wp_walk using AutoSeq1.wpAny_loadPart' ho, hi.here
  exact ⟨_, rfl, rfl, rfl, rfl⟩
theorem decl_tuple {l : Addr} {items : Array Value} (KX : K.In s.heap) (J : InstAt s.heap y oy C od) (su : PySem.W.subIn K (.ref C) (.type "tuple") = some false) (hl : s.heap.IsTuple l items) : Decl prog w A E s (.ref l) y := by
  obtain ⟨⟨cls, dd, data, sl⟩, ho, hc, n, hd⟩ := id hl
  simp only at hc hd
  subst hc hd
  refine wpAny_tryCompare_declines ⟨_, ho, rfl⟩ F.slot_tuple_eq (wpAny_call_entry F.slot_tuple_eq ⟨_, ho, rfl⟩ F.entry_tuple_eq ?_ (F.args_tuple_eq_2 _ _))
  have hi : Looks (model prog w) s.heap (isInstance (.ref y) (.type "tuple")) false := J.type.andThen (PySem.W.looks_subIn KX su)
  obtain ⟨hp, g, d, tk, os⟩ := s
  wp_walk using AutoSeq1.wpAny_loadPart' ho, hi.here
  exact ⟨_, rfl, rfl, rfl, rfl⟩
end
/-- a value on the left whose own == has no answer for instances -/
inductive LftT (K : Frag) (H : Hp) : V → String → Prop
  | non : LftT K H .non "NoneType"
  | int (i : Int) : LftT K H (.int i) "int"
  | str (x : Str) : LftT K H (.str x) "str"
  | lst {p : Addr} {xs : List V} (h : SqL K H p xs) : LftT K H (.ref p) "list"
  | tup {p : Addr} {xs : List V} (h : SqT K H p xs) : LftT K H (.ref p) "tuple"
/-- x == y, y an instance whose def at g is asked for it -/
def rEqR (K : Frag) (C : Addr) (sp : Sp) (E : XK) : R2 := fun x y H Q => ∃ (a dx : Addr) (fs : List (Str × V)) (T : String), y = .ref a ∧ H a = some (.ins C dx fs) ∧ LftT K H x T ∧ PySem.W.subIn K (.ref C) (.type T) = some false ∧ sp [y, x] H Q E
section
variable {X : Cx} {CX : CXT} {C g : Addr} {n k j : Nat} {sp : Sp} {E : XK}
theorem op_eqR (hs : findIn X.K (.ref C) "__eq__" = some (some (.ref g))) (hf : PySem.W.isFn X.K (.ref g) = true) (F : FnR X.prog X.w X.K X.mg X.base CX n g sp) (hr : Room n X.A) (hx : Passes CX X E) : OpR X (compareOp .Eq) (rEqR X.K C sp E) := by
  intro pins s σ H x y v u Q I rx ry h
  obtain ⟨a, dx, fs, T, rfl, ha, lt, su, q⟩ := h
  cases (show u = Value.ref a from ry)
  obtain ⟨mA, O, _⟩ := ins_get I.hok ha
  have ho := O.obj
  obtain ⟨od, J, _⟩ := O.look
  have fin : wpAny (model X.prog X.w) X.A (call (.ref g) [.ref a, v]) (PySem.W.CmpBack (EP X pins σ Q)) X.xe s := wpAny_mono (wpAny_call (run_fnR (us := [.ref a, v]) (vs := [.ref a, x]) F hr hx I (.cons rfl (.cons rx .nil)) q)) (fun r s' z => by
    obtain ⟨z', H', I', rz, qz⟩ := z
    exact SlX.cmpback rz ⟨z', H', I', rz, qz⟩) fun _ _ e => e
  show wpAny _ _ (richCompare .Eq v (.ref a)) _ _ _
  cases lt with
  | non =>
    cases (show v = Value.none from rx)
    exact eq_right hr.units0 I.kIn J rfl decl_none su hs hf fin
  | int i =>
    obtain ⟨t, rfl⟩ := (show ∃ t, v = Value.int i t from rx)
    exact eq_right hr.units0 I.kIn J (typeIs_int s i t) (decl_int ho) su hs hf fin
  | str i =>
    obtain ⟨t, rfl⟩ := (show ∃ t, v = Value.str i t from rx)
    exact eq_right hr.units0 I.kIn J (typeIs_str s i t) (decl_str ho) su hs hf fin
  | lst h =>
    cases (show v = Value.ref _ from rx)
    obtain ⟨its, rv, pl, hz⟩ := I.list h
    obtain ⟨o1, ho1, hc1, _⟩ := id pl.isList
    exact eq_right hr.units0 I.kIn J ⟨o1, ho1, hc1⟩ (decl_list I.kIn J su pl.isList) su hs hf fin
  | tup h =>
    cases (show v = Value.ref _ from rx)
    obtain ⟨its, rv, pl, hz⟩ := I.tuple h
    obtain ⟨o1, ho1, hc1, _⟩ := id pl
    exact eq_right hr.units0 I.kIn J ⟨o1, ho1, hc1⟩ (decl_tuple I.kIn J su pl) su hs hf fin
theorem op_eqRS (c : CalS X.prog X.w X.K X.mg X.base k C "__eq__" sp) (hr : Room j X.A) (hk : k ≤ j) : OpR X (compareOp .Eq) (rEqR X.K C sp E0) := by
  obtain ⟨f, F, h1, h2⟩ := c
  exact op_eqR h1 h2 F (hr.mono hk) pass0
theorem op_or {f : Value → Value → Sem Value} {r1 r2 : R2} (h1 : OpR X f r1) (h2 : OpR X f r2) : OpR X f (fun x y H Q => r1 x y H Q ∨ r2 x y H Q) := by
  intro pins s σ H x y v u Q I rx ry h
  rcases h with h | h
  · exact h1 pins s σ H x y v u Q I rx ry h
  · exact h2 pins s σ H x y v u Q I rx ry h
end
end UL
/-! ### C(), a class without an __init__ of its own -/
namespace UL
open PySem PySem.Spec PyProof.Rows L2
theorem make_map0 {prog : Program} {w : World} {A : Around} {K : PySem.W.Frag} {C : Addr} {s : Shared} {R : Result → Shared → Prop} (KX : K.In s.heap) (hm : PySem.W.makesIn K C = true) (hi : PySem.W.findIn K (.ref C) "__init__" = some (some (.builtin "object.__init__")))
    (h : R (.ok (.ret (.ref (s.heap.objs.size + 1)))) { s with heap := (s.heap.push PySem.W.emptyDict).push (PySem.W.instObj C s.heap.objs.size) }) : codeAny (model prog w) A (.call (.ref C) ⟨[], []⟩) R s := by
  obtain ⟨hh, g, d, t, os⟩ := s
  have Y := PySem.W.makes_of (M := model prog w) KX hm
  have hx : ((hh.push PySem.W.emptyDict).push (PySem.W.instObj C hh.objs.size)).get? (hh.objs.size + 1) = some (PySem.W.instObj C hh.objs.size) := by
    have z := Heap.get?_push_size (hh.push PySem.W.emptyDict) (o := PySem.W.instObj C hh.objs.size) rfl
    rwa [Heap.size_push] at z
  refine PySem.W.make_core Y (PySem.W.looks_findIn KX hi) (fun self => PySem.W.Looks.of_pure (PySem.W.oi_bind self)) (.inr ⟨rfl, rfl⟩) ?_
  have t1 : PySem.W.Looks (model prog w) ((hh.push PySem.W.emptyDict).push (PySem.W.instObj C hh.objs.size)) (typeOf (.ref (hh.objs.size + 1))) (.ref C) := (PySem.W.Looks.ld hx).andThen .now
  have t2 : PySem.W.Looks (model prog w) ((hh.push PySem.W.emptyDict).push (PySem.W.instObj C hh.objs.size)) (isInstance (.ref (hh.objs.size + 1)) (.type "object")) true := t1.andThen (Y.top.keeps fun b o e => Heap.get?_push_of_some (PySem.W.instObj C hh.objs.size) (Heap.get?_push_of_some PySem.W.emptyDict e))
  refine codeAny_call_builtin PySem.W.oi_plain PySem.W.entry_oi (@PySem.W.check_slot (model prog w) _ _ _ "object.__init__" "object" "__init__" (.ref (hh.objs.size + 1)) [] [] _ PySem.W.oi_kind PySem.W.oi_split t2 (PySem.W.oi_args (.ref (hh.objs.size + 1))) ?_)
  rw [PySem.W.oi_run]
  exact wpAny_pure (And.intro rfl h)
/-- a class that makes instances without an __init__ of its own -/
structure Mk0 (K : PySem.W.Frag) (C : Addr) : Prop where
  makes : PySem.W.makesIn K C = true
  init : PySem.W.findIn K (.ref C) "__init__" = some (some (.builtin "object.__init__"))
  kp : PySem.W.keepIn K (.ref C) = true
def tMake0 (C : Addr) : TE := fun _ H Q => ∀ x dx, H x = none → H dx = none → dx ≠ x → Q (.ref x) (upd (upd H dx (.own x)) x (.ins C dx []))
theorem pe_mk0 {X : Cx} {x : Str} {C : Addr} {p pos : Pos} (M : Mk0 X.K C) (hm : X.mg x = some (.ref C)) (hg : Gl X x) (hdb : (x == ("__debug__" : Str)) = false := by decide) : PE X (.Call (.Name x p) [] [] pos) (tMake0 C) := by
  constructor
  intro pins s σ H Q I h
  refine wpAny_Call_Name_kw (ld_glob I hg hm ?_ hdb)
  have q := h (s.heap.objs.size + 1) s.heap.objs.size (I.hok.fresh (Nat.le_succ _)) (I.hok.fresh (Nat.le_refl _)) (Nat.ne_of_lt (Nat.lt_succ_self _))
  exact PySem.W.callWith_K0 I.kIn M.kp (wpAny_call (make_map0 I.kIn M.makes M.init ⟨.ref (s.heap.objs.size + 1), _, Inv.made (C := C) I, rfl, q⟩))
end UL
/-! ### statements one by one: the rest of a body stays out of the goal -/
namespace UL
open PySem PySem.Spec PyProof.Rows L2
theorem seq_cut {a u : TS} {D : Ends} {σ : L2.St} {H : Hp} (P : L2.St → Hp → Prop) (rest : ∀ σ' H', P σ' H' → u D σ' H') (h : ∀ Nx : L2.St → Hp → Prop, (∀ σ' H', P σ' H' → Nx σ' H') → a { D with nx := Nx } σ H) : tSeq a u D σ H := h _ rest
end UL
namespace UL
open PySem PySem.Spec PyProof.Rows L2
theorem ip_of {X : Cx} {op : Operator} {r : R2} (h : OpR X (inplaceOp op) r) : PIp X op r := fun pins s σ H x y v u Q I r1 r2 h' => h pins s σ H x y v u Q I r1 r2 h'
end UL
namespace UL
open PySem PySem.Spec PyProof.Rows L2
/-- o.m(e, ..), o a tuple of the text -/
def tBMK (K : PySem.W.Frag) (r : V → List V → Hp → VK → Prop) (to : TE) (t : TA) : TE := fun σ H Q => to σ H fun x H1 => (∃ (p : Addr) (it : Array Value) (n : Nat) (sl : Array (Option Value)), x = .ref p ∧ K.lookup p = some ⟨.type "tuple", none, .seq it n, sl⟩) ∧ t σ H1 fun xs H2 => r x xs H2 Q
theorem pe_bmK {X : Cx} {o e : Expr} {es : List Expr} {to : TE} {t : TA} {name : Str} {apos cpos : Pos} {id : String} {r : V → List V → Hp → VK → Prop}
    (pa : PlainAttrs "tuple") (slot : Slot "tuple" name id) (hty : typeOf (.builtin id) = pure (.type "method_descriptor")) (hm : MtR X id r) (ho : PE X o to) (ha : PA X (e :: es) t)
    (hbase : attributeBase o name X.env (eval o X.env) = eval o X.env := by rfl)
    (hfew : ((backTo cpos (starEach (e :: es) X.env)).all (fun x => !x.1) && (backToKw cpos (keywordEach [] X.env)).all (fun x => x.1.isSome)
      && decide ((e :: es).length + ([] : List Keyword).length + (if ([] : List Keyword).isEmpty then 0 else 1) < 30)) = true := by rfl)
    (hline : (apos.endLine == cpos.line) = true := by rfl) (hs : starEach (e :: es) X.env = (false, eval e X.env) :: starEach es X.env := by rfl) (hplain : (backTo cpos (starEach es X.env)).any (·.1) = false := by rfl) :
    PE X (.Call (.Attribute o name apos) (e :: es) [] cpos) (tBMK X.K r to t) := by
  refine ⟨fun pins s σ H Q I h => ?_⟩
  refine wpAny_Call_method_late hbase hfew hline rfl (thn (ho.run pins s σ H _ I h) fun v s1 ⟨x, H1, I1, r1, ⟨p, it, n, sl, ex, hp⟩, q1⟩ => ?_)
  subst ex
  cases (show v = Value.ref p from r1)
  have hg := I1.kIn _ _ hp
  refine ⟨"tuple", id, pa, slot, hty, ⟨_, hg, rfl⟩, fun a e => (by cases e; exact ⟨_, hg, rfl⟩), ?_⟩
  have hA := ha.run cpos pins s1 σ H1 _ I1 q1
  rw [hs] at hA ⊢
  refine Calls.callWith_builtin (by show (false || (backTo cpos (starEach es X.env)).any (·.1)) = false; rw [hplain] <;> rfl) (Calls.evalArgs_plain ?_)
  exact thn hA fun us s2 ⟨vs, H2, I2, r2, q2⟩ => hm pins s2 σ H2 (.ref p) vs (.ref p) us Q I2 rfl r2 q2
end UL
set_option Elab.async false
set_option linter.all false
set_option maxRecDepth 100000
set_option maxHeartbeats 4000000
/-! ### lambdas that are kept: in a variable, in a list, called later while their maker's frame is there -/
namespace UL
open PySem PySem.Spec PyProof.Rows L2 LamX
/-- the object at f is the lambda that the frame of X made -/
def LamO (X : Cx) (params : Arguments) (body : Expr) (scope : Scope) (c' f : Addr) : HO :=
  .ext fun h => ∃ (pm ctv : Value), h.get? f = some (PySem.W.kla_obj "<lambda>" (X.env.qual ++ "<lambda>") params body scope (cloFrom X.env.cells scope.names []) pm c' ctv)
theorem objOk_lam {X : Cx} {P : Program} {w : World} {H : Hp} {h : Heap} {params : Arguments} {body : Expr} {scope : Scope} {c' f : Addr} {pm ctv : Value}
    (e : h.get? f = some (PySem.W.kla_obj "<lambda>" (X.env.qual ++ "<lambda>") params body scope (cloFrom X.env.cells scope.names []) pm c' ctv)) : ObjOk P w H h f (LamO X params body scope c' f) :=
  ⟨⟨pm, ctv, e⟩, ⟨_, e⟩, fun _ _ ⟨pm, ctv, a⟩ st => ⟨pm, ctv, st _ a⟩⟩
/-- the tables after one more code object -/
theorem tabs_more {T : List (Addr × Str)} {H : Hp} {P c' : Addr} {q : Str} {ps : Array Value} {pos : Pos} (hT : Tabs T H) (hu : ∀ p ∈ T, p.1 = P → p.2 = q) (hP : H P = some (.tbl ps)) (nC : H c' = none)
    (hm : (P, q) ∈ T) : Tabs T (upd (upd H P (.tbl (ps ++ #[rawInt pos.line, rawInt pos.col, .ref c']))) c' (CodeO c' q)) ∧ ExtN H (upd (upd H P (.tbl (ps ++ #[rawInt pos.line, rawInt pos.col, .ref c']))) c' (CodeO c' q)) := by
  have hE : ExtN H (upd (upd H P (.tbl (ps ++ #[rawInt pos.line, rawInt pos.col, .ref c']))) c' (CodeO c' q)) := fun b o e n => by
    rw [upd_ne (ne_of_none e nC), upd_ne (fun z => n ps (Option.some.inj (e.symm.trans (by rw [z]; exact hP))))]
    exact e
  refine ⟨fun p hp => ?_, hE⟩
  by_cases hb : p.1 = P
  · obtain ⟨ps', a1, a2, a3⟩ := hT p hp
    rw [hb, hP] at a1
    cases a1
    rw [hu p hp hb] at a3 ⊢
    have eL : (ps ++ #[rawInt pos.line, rawInt pos.col, .ref c']).toList = ps.toList ++ [rawInt pos.line, rawInt pos.col, .ref c'] := by simp
    refine ⟨ps ++ #[rawInt pos.line, rawInt pos.col, .ref c'], by rw [hb, upd_ne (ne_of_none hP nC), upd_same], by rw [eL]; exact PySem.TriplesOk_snoc _ _ _ _ a2, fun p' cv hcv => ?_⟩
    rw [eL] at hcv
    rcases among_app _ a2 hcv with z | z
    · obtain ⟨c0, e1, e2⟩ := a3 p' cv z
      exact ⟨c0, e1, hE _ _ e2 codeO_ne⟩
    · exact ⟨c', z, upd_same⟩
  · obtain ⟨ps', a1, a2, a3⟩ := hT p hp
    refine ⟨ps', by rw [upd_ne (ne_of_none a1 nC), upd_ne hb]; exact a1, a2, fun p' cv hcv => ?_⟩
    obtain ⟨c0, e1, e2⟩ := a3 p' cv hcv
    exact ⟨c0, e1, hE _ _ e2 codeO_ne⟩
section
variable {X : Cx} {pins : List (Addr × Obj)} {σ : L2.St} {H : Hp} {s : Shared}
/-- a lambda's value: where it stands, its code object -/
def tLamV (T : List (Addr × Str)) (X : Cx) (params : Arguments) (body : Expr) (scope : Scope) : TE := fun σ H Q => Tabs T H ∧ ∀ (f c' : Addr) (H1 : Hp), ExtN H H1 → Tabs T H1 → H f = none →
  H1 f = some (LamO X params body scope c' f) → H1 c' = some (CodeO c' (X.env.qual ++ "<lambda>")) → Q (.ref f) H1
theorem pe_lamV {T : List (Addr × Str)} {c P : Addr} {params : Arguments} {body : Expr} {scope : Scope} {pos : Pos} (TB : TabB X.base X.mg c P) (hcode : X.env.code = .ref c)
    (hm : (P, X.env.qual ++ "<lambda>") ∈ T) (hu : ∀ p ∈ T, p.1 = P → p.2 = X.env.qual ++ "<lambda>") (L : LamS X.env.scope scope) (hdef : defaultsOf params X.env = ([], [])) :
    PE X (.Lambda params body scope pos) (tLamV T X params body scope) := by
  refine ⟨fun pins s σ H Q I ⟨hT, h⟩ => ?_⟩
  have hfree := L.has I.ok
  obtain ⟨ps, hP, ht, ha⟩ := hT _ hm
  have bP : s.heap.BuiltinsAt X.mg P := TB.bm.keeps I.bk
  have hP' : s.heap.get? P = some { cls := .none, data := .fields ps } := I.hok P _ hP
  refine PySem.W.kla_eval hdef ?_
  cases hc : codeAmong pos ps.toList with
  | none =>
    refine PySem.W.kla_makeFunction (mg := X.mg) (c := c) (P := P) (ps := ps) (closure_ok hfree) I.ok.glob (I.mod.glob.keeps I.bk) hcode (TB.code.keeps I.bk) hP' ht hc TB.gP bP fun c' ctv h' tk hx hge hlt hrec htb => ?_
    obtain ⟨c2, oc, vs, t, e2, hoc, hd, hv⟩ := hrec
    cases e2
    have hsz : s.heap.objs.size ≤ h'.objs.size := Nat.le_trans hge (Nat.le_of_lt hlt)
    have nC : H c' = none := I.hok.fresh hge
    have I1 := inv_table (t' := tk) (more := #[rawInt pos.line, rawInt pos.col, .ref c']) (h' := h') I hP (fun b o hb e => hx b o hb e) htb hge ⟨oc, vs, t, hoc, hd, hv⟩
    have nF := I1.hok.fresh (a := h'.objs.size) (Nat.le_refl _)
    have I2 := I1.laid (a := h'.objs.size) (o := LamO X params body scope c' h'.objs.size) (t' := tk) (h' := h'.push (PySem.W.kla_obj "<lambda>" (X.env.qual ++ "<lambda>") params body scope (cloFrom X.env.cells scope.names []) ((X.mg "__name__").getD .none) c' ctv))
      (fun b u e => Heap.get?_push_of_some _ e) (Nat.le_refl _) (objOk_lam (Heap.get?_push_size _ rfl))
    obtain ⟨T1, E1⟩ := tabs_more (pos := pos) hT hu hP nC hm
    have E2 : ∀ b o, upd (upd H P (.tbl (ps ++ #[rawInt pos.line, rawInt pos.col, .ref c']))) c' (CodeO c' (X.env.qual ++ "<lambda>")) b = some o →
        upd (upd (upd H P (.tbl (ps ++ #[rawInt pos.line, rawInt pos.col, .ref c']))) c' (CodeO c' (X.env.qual ++ "<lambda>"))) h'.objs.size (LamO X params body scope c' h'.objs.size) b = some o := fun b o e => by
      rw [upd_ne (ne_of_none e nF)]
      exact e
    exact ⟨.ref h'.objs.size, _, I2, rfl, h h'.objs.size c' _ (E1.trans (ExtN.of E2)) (T1.ext E2) (I.hok.fresh hsz) upd_same (E2 _ _ upd_same)⟩
  | some cv =>
    obtain ⟨c', e, hco⟩ := ha pos cv hc
    subst e
    refine PySem.W.kla_makeFunctionHit (mg := X.mg) (c := c) (P := P) (ps := ps) (closure_ok hfree) I.ok.glob (I.mod.glob.keeps I.bk) hcode (TB.code.keeps I.bk) hP' ht hc bP fun ctv h' tk hx hsz => ?_
    have nF : H h'.objs.size = none := I.hok.fresh hsz
    have I2 := I.laid (a := h'.objs.size) (o := LamO X params body scope c' h'.objs.size) (t' := tk) (h' := h'.push (PySem.W.kla_obj "<lambda>" (X.env.qual ++ "<lambda>") params body scope (cloFrom X.env.cells scope.names []) ((X.mg "__name__").getD .none) c' ctv))
      (fun b u e => Heap.get?_push_of_some _ (hx b u e)) hsz (objOk_lam (Heap.get?_push_size _ rfl))
    have E2 : ∀ b o, H b = some o → upd H h'.objs.size (LamO X params body scope c' h'.objs.size) b = some o := fun b o e => by
      rw [upd_ne (ne_of_none e nF)]
      exact e
    exact ⟨.ref h'.objs.size, _, I2, rfl, h h'.objs.size c' _ (ExtN.of E2) (hT.ext E2) nF upd_same (E2 _ _ hco)⟩
/-! ### called by a def that gets it -/
/-- a lambda's text, read in the frame of X -/
structure Deed (X : Cx) (k : Nat) (params : Arguments) (body : Expr) (scope : Scope) (t : XK → TE) : Prop where
  L : LamS X.env.scope scope
  bind : ∀ (q : Str) (cl : List (Str × Addr)) (pm cv ctv : Value), bindArgs (PySem.W.kla_fn "<lambda>" q params body scope cl pm cv ctv) ⟨[], []⟩ = pure []
  body : ∀ (A : Around) (outer : List Env) (s : Shared) (H : Hp) (E : XK) (f c' : Addr), Room k (A.deeper (lamEnv X scope s.heap.objs.size f c')) → PE (lamCx X A outer s H E scope f c') body (t E)
/-- what a() does in the def that got the kept lambda o at f -/
def tDeedV (i : Nat) (f : Addr) (o : HO) (c' : Addr) (q : Str) (W : WX) (tl : XK → Hp → VK → Prop) : TE := fun σZ HZ Q => σZ[i]? = some (some (.ref f)) ∧ HZ f = some o ∧ HZ c' = some (CodeO c' q) ∧ tl (WE W σZ) HZ Q
theorem pe_deedV {CXg : CXT} {Eg : XK} {Ng : List Str} {qg : Str} {sg : Scope} {g f c' : Addr} {cdg : Value} {params : Arguments} {body : Expr} {scope : Scope} {k i : Nat} {a : Str} {pn : List (Addr × Obj)} {xe : Value → Shared → Prop} {W : WX} {t : XK → TE} {p1 p2 : Pos}
    (I : Inv X pins σ H s) (D : Deed X k params body scope t)
    (tk : Takes ((cxOf CXg X.prog X.w X.K X.mg X.base Ng qg sg g cdg X.A X.stack s H Eg).tr pn xe) W) (hr : Room (k + 1) (X.A.deeper (envOfC qg sg s.heap.objs.size g cdg)))
    (hN : Ng[i]? = some a) (hv : Vis sg a) (hd : (a == ("__debug__" : Str)) = false) (hcd : (a == ("__classdict__" : Str)) = false) :
    PE ((cxOf CXg X.prog X.w X.K X.mg X.base Ng qg sg g cdg X.A X.stack s H Eg).tr pn xe) (.Call (.Name a p1) [] [] p2) (tDeedV i f (LamO X params body scope c' f) c' (X.env.qual ++ "<lambda>") W fun E H' Q' => t E σ H' Q') := by
  refine ⟨fun pinsZ sZ σZ HZ Q IZ hh => ?_⟩
  obtain ⟨at_, hl, hc, ht⟩ := hh
  refine wpAny_Call_Name_kw (thn ((pe_var (pos := p1) (i := i) hN hv hd hcd).run pinsZ sZ σZ HZ (fun v H1 => v = .ref f ∧ H1 = HZ) IZ ⟨.ref f, at_, rfl, rfl⟩) fun u s1 ⟨v, H1, I1, r1, ev, eH⟩ => ?_)
  subst ev eH
  cases (show u = Value.ref f from r1)
  obtain ⟨⟨pm, ctv, of1⟩, _, _⟩ := I1.hok f _ hl
  refine PySem.W.callWith_F0 ⟨_, _, _, _, of1⟩ ?_
  have un : Un (frs X.stack) [] H H1 s.heap s1.heap := I1.base
  obtain ⟨⟨oc, vs, tk', hoc, hdc, hvc⟩, _, _⟩ := I1.hok c' _ hc
  have run : codeAny (model X.prog X.w) (X.A.deeper (envOfC qg sg s.heap.objs.size g cdg)) (.call (.ref f) ⟨[], []⟩) (CR (L2.CX X.prog X.w) (envOfC qg sg s.heap.objs.size g cdg :: X.stack) X.prog X.w H1 s1 Q (WE W σZ)) s1 := by
    refine PySem.W.kla_callFunE hr.depth of1 rfl D.L.co D.L.gen rfl ⟨c', oc, vs, tk', rfl, hoc, hdc, hvc⟩ ?_
    rw [D.bind]
    refine wpAny_pure (wpAny_newFunctionEnv (fun y hy => (D.L.own y hy).2) (fun y hy => absurd hy (by simp)) (fun h₁ hns hsb => ⟨I1.nolimit.fresh _ hsb, ?_⟩) D.L.kind)
    have kp : ∀ b o, s1.heap.get? b = some o → h₁.get? b = some o := fun b o z => hsb.extBut b o (Nat.ne_of_lt (Heap.lt_size z)) (Heap.get?_push_of_some _ z)
    have J := lam_start2 (tk := s1.toks + ([] : List (Str × Value)).length) (E := WE W σZ) (f := f) (c' := c') I D.L I1.env0 hr.hd un hns kp
    refine PySem.W.kla_codeExpr (wpAny_mono ((D.body _ _ s1 H1 (WE W σZ) f c' (hr.deeper _)).run [] _ _ H1 Q J ht) (fun v s' hq => ?_) fun e s' hq => hq)
    obtain ⟨w', H', J', rv, q⟩ := hq
    exact ⟨w', H', J'.os, J'.bare, J'.base, J'.hok, rv, q⟩
  refine wpAny_call (codeAny_mono run fun r s' hq => ?_)
  rcases r with e | fl
  · exact passAt tk σZ pinsZ H1 s1 e s' I1 hq
  cases fl with
  | ret u => exact I1.after hq
  | next => exact hq.elim
  | brk => exact hq.elim
  | cont => exact hq.elim
end
/-- the def that calls the kept lambda that it got -/
def GivesV (n : Nat) (X : Cx) (Ng : List Str) (x : Str) (sg : Scope) (g : Addr) (cdg : Value) (bg : List Stmt) (a : Str) (TT : (XK → Hp → VK → Prop) → Hp → VK → Prop) : Prop :=
  ∀ (q : Str) (f c' : Addr) (o : HO) (s : Shared) (H : Hp) (Q : VK) (tl : XK → Hp → VK → Prop),
    (∀ (W : WX) (pn : List (Addr × Obj)) (xe : Value → Shared → Prop) (p1 p2 : Pos), Takes ((cxOf CX0 X.prog X.w X.K X.mg X.base Ng x sg g cdg X.A X.stack s H E0).tr pn xe) W →
      PE ((cxOf CX0 X.prog X.w X.K X.mg X.base Ng x sg g cdg X.A X.stack s H E0).tr pn xe) (.Call (.Name a p1) [] [] p2) (tDeedV 0 f o c' q W tl)) →
    Room n X.A → H f = some o → H c' = some (CodeO c' q) → TT tl H Q →
    ∃ t, PSs (cxOf CX0 X.prog X.w X.K X.mg X.base Ng x sg g cdg X.A X.stack s H E0).nox bg t ∧ t { nx := fun _ H' => Q .non H', rt := Q } (L2.start Ng [.ref f]) H
/-- what a caller knows of it -/
def CalLV (P : Program) (w : World) (K : PySem.W.Frag) (mg : Str → Option Value) (base : Heap) (n : Nat) (x a : Str) (TT : (XK → Hp → VK → Prop) → Hp → VK → Prop) : Prop :=
  ∃ (g : Addr) (oc : Value) (od : Option Addr) (pg : Arguments) (bg : List Stmt) (sg : Scope) (dV kV doc pm cdv ct : Value) (an : Option Addr) (osl : Array (Option Value)) (Ng : List Str),
    mg x = some (.ref g) ∧ PySem.W.keepIn K (.ref g) = true ∧ K.lookup g = some ⟨oc, od, .func (PySem.W.fnOf x x pg bg sg dV kV doc pm an cdv ct), osl⟩ ∧ PySem.W.codeIn K cdv x = true ∧ Binds K (PySem.W.fnOf x x pg bg sg dV kV doc pm an cdv ct) [a] [] ∧ FnScope Ng [a] sg ∧ Ng[0]? = some a ∧ Vis sg a ∧
    ∀ (X : Cx), X.prog = P → X.w = w → X.K = K → X.mg = mg → X.base = base → GivesV n X Ng x sg g cdv bg a TT
/-- the lambda at f, read t in the frame of X, is kept -/
def Kept (X : Cx) (k : Nat) (t : XK → TE) (f : Addr) (H : Hp) : Prop := ∃ (c' : Addr) (params : Arguments) (body : Expr) (scope : Scope),
  H f = some (LamO X params body scope c' f) ∧ H c' = some (CodeO c' (X.env.qual ++ "<lambda>")) ∧ Deed X k params body scope t
theorem lamO_ne {X : Cx} {params : Arguments} {body : Expr} {scope : Scope} {c' f : Addr} (ps : Array Value) : LamO X params body scope c' f ≠ .tbl ps := fun z => by
  unfold LamO at z
  cases z
theorem Kept.ext {X : Cx} {k : Nat} {t : XK → TE} {f : Addr} {H H' : Hp} (h : Kept X k t f H) (e : ExtN H H') : Kept X k t f H' := by
  obtain ⟨c', params, body, scope, h1, h2, D⟩ := h
  exact ⟨c', params, body, scope, e _ _ h1 lamO_ne, e _ _ h2 codeO_ne, D⟩
theorem Kept.same {X : Cx} {k : Nat} {t : XK → TE} {f : Addr} {H H' : Hp} (h : Kept X k t f H) (e : L2.Same H H') : Kept X k t f H' := h.ext (ExtN.of e)
/-- a lambda's value, its text read -/
def tLamD (T : List (Addr × Str)) (X : Cx) (k : Nat) (t : XK → TE) : TE := fun σ H Q => Tabs T H ∧ ∀ (f : Addr) (H1 : Hp), ExtN H H1 → Tabs T H1 → H f = none → Kept X k t f H1 → Q (.ref f) H1
theorem pe_lamD {X : Cx} {j : Nat} {T : List (Addr × Str)} {c P : Addr} {params : Arguments} {body : Expr} {scope : Scope} {t : XK → TE} {pos : Pos} (TB : TabB X.base X.mg c P) (hcode : X.env.code = .ref c)
    (hm : (P, X.env.qual ++ "<lambda>") ∈ T) (hu : ∀ p ∈ T, p.1 = P → p.2 = X.env.qual ++ "<lambda>") (hr : Room j X.A) (L : LamS X.env.scope scope) (hdef : defaultsOf params X.env = ([], []))
    (hbind : ∀ (q : Str) (cl : List (Str × Addr)) (pm cv ctv : Value), bindArgs (PySem.W.kla_fn "<lambda>" q params body scope cl pm cv ctv) ⟨[], []⟩ = pure [])
    (hbody : ∀ (A : Around) (outer : List Env) (s : Shared) (H : Hp) (E : XK) (f c' : Addr), Room (j - 2) (A.deeper (lamEnv X scope s.heap.objs.size f c')) → PE (lamCx X A outer s H E scope f c') body (t E)) :
    PE X (.Lambda params body scope pos) (tLamD T X (j - 2) t) :=
  ⟨fun pins s σ H Q I ⟨hT, h⟩ => (pe_lamV TB hcode hm hu L hdef).run pins s σ H Q I ⟨hT, fun f c' H1 e T1 n a1 a2 => h f H1 e T1 n ⟨c', params, body, scope, a1, a2, ⟨L, hbind, hbody⟩⟩⟩⟩
/-- x(d), d a kept lambda of this frame -/
def tToldV (X : Cx) (k : Nat) (TT : (XK → Hp → VK → Prop) → Hp → VK → Prop) (ta : TA) : TE := fun σ H Q => ta σ H fun vs H1 => ∃ (f : Addr) (t : XK → TE), vs = [.ref f] ∧ Kept X k t f H1 ∧ TT (fun E H' Q' => t E σ H' Q') H1 Q
theorem pe_toldV {X : Cx} {n j : Nat} {x a : Str} {TT : (XK → Hp → VK → Prop) → Hp → VK → Prop} {e : Expr} {ta : TA} {p pos : Pos} (cl : CalLV X.prog X.w X.K X.mg X.base n x a TT) (hg : Gl X x) (hr : Room j X.A) (hn : n ≤ j) (hj : 2 ≤ j) (ha : PA X [e] ta)
    (hdb : (x == ("__debug__" : Str)) = false := by decide) (hd : (a == ("__debug__" : Str)) = false := by decide) (hcd : (a == ("__classdict__" : Str)) = false := by decide)
    (he : starEach [e] X.env = (false, eval e X.env) :: starEach [] X.env := by rfl) (hpl : (backTo pos (starEach [] X.env)).any (·.1) = false := by rfl) :
    PE X (.Call (.Name x p) [e] [] pos) (tToldV X (j - 2) TT ta) := by
  obtain ⟨g, oc, od, pg, bg, sg, dV, kV, doc, pm, cdv, ct, an, osl, Ng, hm, kp, lk, hcg, hb, Sg, hN, hva, hG⟩ := cl
  have hj2 : j - 2 + 1 + 1 = j := by omega
  refine ⟨fun pins s σ H Q I hh => wpAny_Call_Name_kw (ld_glob I hg hm ?_ hdb)⟩
  refine PySem.W.callWith_K (h₀ := X.base) I.ok.mod.kin kp (thn (ha.run pos pins s σ H _ I hh) fun us s1 ⟨vs, H1, I1, rv, f, t, ev, ⟨c', params, body, scope, hf, hc, D⟩, q⟩ => ⟨I1.kIn, ?_⟩) he hpl
  subst ev
  obtain ⟨u, rfl, ru⟩ : ∃ u, us = [u] ∧ RelV (.ref f) u := by
    cases rv with
    | cons r0 r1 =>
      cases r1
      exact ⟨_, rfl, r0⟩
  have hr2 : Room (j - 2 + 1 + 1) X.A := by rw [hj2]; exact hr
  have rc : codeAny (model X.prog X.w) X.A (.call (.ref g) ⟨[u], []⟩) (CR CX0 X.stack X.prog X.w H1 s1 Q E0) s1 := by
    refine run_ofS (N := Ng) (ps := [a]) (us := [u]) (vs := [.ref f]) lk hcg Sg hr2 I1.env0 (hb s1 [u] I1.kIn rfl) rv rfl fun hr' => ?_
    obtain ⟨t', ht', hq'⟩ := hG X rfl rfl rfl rfl rfl (X.env.qual ++ "<lambda>") f c' _ s1 H1 Q (fun E H' Q' => t E σ H' Q') (fun W pn xe p1 p2 tk => pe_deedV (i := 0) I1 D tk hr' hN hva hd hcd) (hr.mono hn) hf hc q
    exact ⟨t', ht'.nox, hq'⟩
  refine wpAny_call (codeAny_mono rc fun r s2 hq => ?_)
  rcases r with e | fl
  · exact (show False from hq).elim
  cases fl with
  | ret u => exact I1.after hq
  | next => exact hq.elim
  | brk => exact hq.elim
  | cont => exact hq.elim
/-- a told that is read for kept lambdas serves those of a variable too -/
theorem GivesV.mono {n m : Nat} {X : Cx} {Ng : List Str} {x : Str} {sg : Scope} {g : Addr} {cdg : Value} {bg : List Stmt} {a : Str} {TT : (XK → Hp → VK → Prop) → Hp → VK → Prop} (h : GivesV n X Ng x sg g cdg bg a TT) (hm : n ≤ m) : GivesV m X Ng x sg g cdg bg a TT :=
  fun q f c' o s H Q tl act hr => h q f c' o s H Q tl act (hr.mono hm)
end UL
set_option Elab.async false
set_option linter.all false
set_option maxRecDepth 100000
set_option maxHeartbeats 4000000
/-! ### a comprehension whose element calls what its maker's frame keeps: the element is read where the frame's own state is known -/
namespace UL
open PySem PySem.Spec PyProof.Rows L2 LamX
section
variable {X : Cx}
/-- the iterator's own objects, in X's eyes -/
def Fps (X : Cx) (pins : List (Addr × Obj)) (H : Hp) (fp : List Addr) : Prop := ∀ b ∈ fp, FpOk X pins H b
/-- the frame's state behind some turns of its comprehension's block -/
theorem back_from {pins pl : List (Addr × Obj)} {σ τ : L2.St} {Hb Hn : Hp} {sb sn : Shared} {scope : Scope} {ce : Env} {fp : List Addr} (J : Inv X pins σ Hb sb) (hf : Fps X pins Hb fp)
    (I : Inv (X.blk sb Hb scope ce fp) pl τ Hn sn) : Inv X pins σ Hn sn :=
  J.call' (ch := fp) I.os I.base I.hok I.bare fun b hb => by
    obtain ⟨_, h1, _, h3, h4, h5⟩ := hf b hb
    exact ⟨h3, h1, h4, h5⟩
/-- what stands before each turn -/
def Round (X : Cx) (σ : L2.St) (sb : Shared) (Hb : Hp) (scope : Scope) (ce : Env) (fp : List Addr) (vs : List Nat) (tn : Nat → Heap → Prop) (W : Nat → Nat → Hp → Prop) (n : Nat) (s : Shared) : Prop :=
  ∃ i H, Inv (X.blk sb Hb scope ce fp) [] (wipe σ vs) H s ∧ tn i s.heap ∧ (∀ b ∈ fp, H b = none) ∧ W i n H
theorem fps_blk {τ : L2.St} {Hb H : Hp} {sb s : Shared} {scope : Scope} {ce : Env} {fp : List Addr} (I : Inv (X.blk sb Hb scope ce fp) [] τ H s) (z : ∀ b ∈ fp, H b = none) : Fps (X.blk sb Hb scope ce fp) [] H fp := by
  intro b hb
  have a1 := I.ok.exf b hb
  have a2 := I.ok.exfs b hb
  exact ⟨z b hb, a1.1, a2, Or.inl hb, fun x c q => a1.2 x c q, fun p hp => by cases (show p ∈ ([] : List (Addr × Obj)) from hp)⟩
/-- a turn is over: the slots of the block's own names are forgotten, the iterator stands at the next one -/
theorem round_next {tg : Expr} {Ji : It} {it : Addr} {σ τ : L2.St} {sb su s : Shared} {Hb H : Hp} {scope : Scope} {ce : Env} {fp : List Addr} {vs : List Nat} {tn : Nat → Heap → Prop} {W : Nat → Nat → Hp → Prop} {i m : Nat}
    (T : Turn X.prog X.w X.K tg Ji fp it tn) (hw : wipe τ vs = wipe σ vs) (ht : tn (i + 1) su.heap) (I : Inv (X.blk sb Hb scope ce fp) ([] ++ pinsAt fp su.heap) τ H s) (w : W (i + 1) m H) : Round X σ sb Hb scope ce fp vs tn W m s := by
  have held : ∀ b ∈ fp, ∀ o, su.heap.get? b = some o → s.heap.get? b = some o ∧ H b = none := by
    intro b hb o e
    have z := I.pin (b, o) (by simp only [List.nil_append]; exact mem_pinsAt hb e)
    exact ⟨z.1, z.2.1⟩
  have I' : Inv (X.blk sb Hb scope ce fp) [] τ H s := I.unpinned
  refine ⟨i + 1, H, I'.weak (by rw [← hw]; exact wipe_length τ vs) (fun j v q => ?_), T.keep (i + 1) su.heap s.heap ht (fun b hb o e => (held b hb o e).1), fun b hb => ?_, w⟩
  · rw [← hw] at q
    exact (wipe_some q).1
  · obtain ⟨o, e, _⟩ := T.obj (i + 1) su.heap ht b hb
    exact (held b hb o e).2
/-- the list in the making takes one more -/
theorem pe_lcIn {elt tg iter : Expr} {ifs : List Expr} {scope : Scope} {own : List (Str × Nat)} {pos : Pos} {wi : TI} {g : TG} {tt : TT} {te : L2.St → TE} (hc : X.calm = true) (hN : X.N.Nodup) (hi : PI X tg iter wi) (ok : BlkOk X.N X.env.scope scope own)
    (hg : ∀ (s : Shared) (H : Hp) (C : Addr) (cl : List (Str × Addr)) (fp : List Addr), PG (X.blk s H scope (compEnvC scope cl C X.env) fp) tg g)
    (ht : ∀ (s : Shared) (H : Hp) (C : Addr) (cl : List (Str × Addr)) (fp : List Addr), PTs (X.blk s H scope (compEnvC scope cl C X.env) fp) ifs tt)
    (he : ∀ (pins : List (Addr × Obj)) (σ : L2.St) (s : Shared) (H : Hp) (C : Addr) (cl : List (Str × Addr)) (fp : List Addr), Inv X pins σ H s → Fps X pins H fp → PE (X.blk s H scope (compEnvC scope cl C X.env) fp) elt (te σ))
    (hs : ∀ x, foldedSetIterable iter X.env x = pure x := by intro _; rfl) :
    PE X (.ListComp elt [⟨tg, iter, ifs, 0⟩] scope pos) (fun σ H Q => tLc wi g tt (te σ) (own.map (·.2)) σ H Q) := by
  constructor
  intro pins s0 σ H0 Q I0 hq
  rw [eval_ListComp]
  have cap : ∀ y ∈ scope.names, y.2 = NameKind.free → ∃ c, X.env.cells.lookup y.1 = some c := by
    intro y hy e
    cases ok.free y hy e with
    | inl k => exact I0.ok.has _ (Or.inl k)
    | inr k => exact I0.ok.has _ (Or.inr k)
  refine wpAny_comprehension_free rfl hs (closure_ok cap) ok.kind (fun y hy e => (ok.uniq y hy).trans (congrArg some e)) ?_
  refine thn (hi.run pins s0 σ H0 _ I0 hq) ?_
  intro xv s1 k1
  refine thn k1 ?_
  rintro itv s2 ⟨it, fp, tn, Ji, H2, rfl, I2, T, t0, f2, q2⟩
  refine wpAny_newObj_type (newEnv_comp ?_) (by show 0 ≤ sizeLine; decide)
  -- the new list, at L
  obtain ⟨L, eL⟩ : ∃ L, L = s2.heap.objs.size := ⟨_, rfl⟩
  have freshL : H2 L = none := I2.hok.fresh (Nat.le_of_eq eL.symm)
  obtain ⟨W, ⟨m0, w0⟩, turn⟩ := q2 L freshL
  obtain ⟨hp, ehp⟩ : ∃ hp, hp = s2.heap.push { cls := .type "list", data := .seq ([] : List Value).toArray } := ⟨_, rfl⟩
  have grow : ∀ b o, s2.heap.get? b = some o → hp.get? b = some o := fun b o e => by rw [ehp]; exact Heap.get?_push_of_some _ e
  have atL : hp.get? L = some { cls := .type "list", data := .seq ([] : List Value).toArray } := by rw [ehp, eL]; exact Heap.get?_push_size _ rfl
  have Ib : Inv X pins σ (upd H2 L (.lst [])) { s2 with heap := hp } := I2.laid (t' := s2.toks) grow (Nat.le_of_eq eL.symm) ⟨Nat.zero_le _, [], 0, .nil, atL⟩
  have low : ∀ b ∈ fp, b < s2.heap.objs.size := fun b hb => (T.obj 0 s2.heap t0 b hb).elim fun o z => Heap.lt_size z.1
  have fb : Fps X pins (upd H2 L (.lst [])) fp := fun b hb => ⟨by rw [upd_ne (Nat.ne_of_lt (by rw [eL]; exact low b hb))]; exact (f2 b hb).1, (f2 b hb).2⟩
  have tb : tn 0 hp := T.keep 0 _ _ t0 fun b _ o e => grow b o e
  have nb : ∀ b ∈ fp, (upd H2 L (.lst [])) b = none := fun b hb => (fb b hb).1
  rw [← ehp, ← eL]
  generalize upd H2 L (.lst []) = Hb at Ib fb nb w0
  obtain ⟨sb, esb⟩ : ∃ sb : Shared, sb = { s2 with heap := hp } := ⟨_, rfl⟩
  have esh : sb.heap = hp := by rw [esb]
  rw [← esb] at Ib
  rw [← esh] at tb
  obtain ⟨cl, ecl⟩ : ∃ cl, cl = cellsFrom (sb.heap.objs.size + 1) scope.names (cloFrom X.env.cells scope.names []) := ⟨_, rfl⟩
  have I3 := block_start Ib ok hN fun b hb => ⟨fb b hb, by rw [esh, ehp, Heap.size_push]; exact Nat.lt_succ_of_lt (low b hb)⟩
  have rg := hg sb Hb sb.heap.objs.size cl fp
  have rt := ht sb Hb sb.heap.objs.size cl fp
  have re := he pins σ sb Hb sb.heap.objs.size cl fp Ib fb
  rw [← ecl] at I3
  obtain ⟨s3, es3⟩ : ∃ s3 : Shared, s3 = { sb with heap := pushCells (sb.heap.push { cls := .type "dict", data := .dict #[] }) scope.names } := ⟨_, rfl⟩
  rw [← es3] at I3
  have t3 : tn 0 s3.heap := T.keep 0 _ _ tb fun b _ o e => by rw [es3]; exact pushCells_keeps _ _ _ _ (Heap.get?_push_of_some _ e)
  have es3' : s3 = { s2 with heap := pushCells (hp.push { cls := .type "dict", data := .dict #[] }) scope.names } := by rw [es3, esb]
  rw [← esh, ← ecl]
  show codeAny _ _ (.compStart _ 0 (.ref it) (.ref L) (compEnvC scope cl sb.heap.objs.size X.env)) _ { s2 with heap := pushCells (sb.heap.push { cls := .type "dict", data := .dict #[] }) scope.names }
  rw [esh, ← es3', ← esh]
  have at_ce : (compEnvC scope cl sb.heap.objs.size X.env).locals = sb.heap.objs.size := rfl
  generalize compEnvC scope cl sb.heap.objs.size X.env = ce at I3 rg rt re at_ce ⊢
  have lp : codeAny (model X.prog X.w) X.A (.compLoop (.ListComp elt [⟨tg, iter, ifs, 0⟩] scope pos) 0 (.ref it) (.ref L) ce)
      (compPost (model X.prog X.w) X.A X.xe none (EP X pins σ Q) (.ref L) sb.heap.objs.size) s3 := by
    refine compLoop_any (Round X σ sb Hb scope ce fp (own.map (·.2)) tn W) ?_ m0 ⟨0, Hb, I3, t3, nb, w0⟩
    rintro n s4 ⟨i, H4, I4, t4, n4, w4⟩
    cases turn i n H4 w4 with
    | inl h =>
      refine thnF (T.done (X.blk sb Hb scope ce fp) rfl rfl rfl hc i [] s4 _ H4 (fun _ _ => False) I4 (fps_blk I4 n4) t4 h.1) ?_
      rintro r s5 ⟨rfl, I5⟩
      have If := back_from Ib fb I5
      have fr : H4 sb.heap.objs.size = none := by
        rw [← at_ce]
        exact I5.free
      obtain ⟨m, hm, _⟩ := I5.loc
      have hm : s5.heap.Ns sb.heap.objs.size m := by
        rw [← at_ce]
        exact hm
      obtain ⟨c0, c1, _, c3, c4, c5⟩ := Ib.fpOk (Nat.le_refl _) fr
      exact ⟨m, hm, fun h5 k5 => ⟨.ref L, H4, If.turned (t' := s5.toks) (fun b o hb e => (k5.2 b hb).trans e) c0 c1 c3 c4 c5, rfl, h.2⟩⟩
    | inr h =>
      obtain ⟨go, Nx, again, step⟩ := h
      refine thnF (T.item (X.blk sb Hb scope ce fp) rfl rfl rfl hc i [] s4 _ H4 (fun _ _ => False) I4 (fps_blk I4 n4) t4 go) ?_
      rintro r s5 ⟨u, rfl, k5⟩
      refine thnF k5 ?_
      rintro _ s6 ⟨x, H6, I6, r6, y6, t6, n6⟩
      have J6 := I6.pinned (fps_blk I6 n6) (T.obj _ _ t6)
      refine thnF (rg.run _ s6 _ H6 x u _ J6 r6 (step x H6 y6)) ?_
      rintro _ s7 ⟨τ, H7, I7, hw, q7⟩
      refine thnF (rt.run _ s7 τ H7 _ I7 q7) ?_
      rintro b s8 ⟨H8, I8, q8⟩
      cases b with
      | false =>
        obtain ⟨m', hm, w'⟩ := again H8 q8
        exact ⟨m', hm, round_next T hw t6 I8 w'⟩
      | true =>
        refine thnF (re.run _ s8 τ H8 _ I8 q8) ?_
        rintro z s9 ⟨y, H9, I9, r9, acc, k9, z9, nx⟩
        refine app_ok (X := X.blk sb Hb scope ce fp) I9 k9 z9 r9 fun s10 I10 => ?_
        obtain ⟨m', hm, w'⟩ := again _ nx
        exact ⟨m', hm, round_next T hw t6 I10 w'⟩
  exact codeAny_compStart_list lp (T.self X.A 0 _ _ _ t3 lp)
/-- x(d) in a block of this frame, whose names stood so when the block began -/
def tToldB (X : Cx) (k : Nat) (TT : (XK → Hp → VK → Prop) → Hp → VK → Prop) (ta : TA) (σ0 : L2.St) : TE := fun σ H Q => ta σ H fun vs H1 => ∃ (f : Addr) (t : XK → TE), vs = [.ref f] ∧ Kept X k t f H1 ∧ TT (fun E H' Q' => t E σ0 H' Q') H1 Q
theorem pe_toldB {pins0 : List (Addr × Obj)} {σ0 : L2.St} {H0 : Hp} {s0 : Shared} {scope : Scope} {ce : Env} {fp : List Addr} {n j : Nat} {x a : Str} {TT : (XK → Hp → VK → Prop) → Hp → VK → Prop} {e : Expr} {ta : TA} {p pos : Pos}
    (I0 : Inv X pins0 σ0 H0 s0) (hf : Fps X pins0 H0 fp) (cl : CalLV X.prog X.w X.K X.mg X.base n x a TT) (hg : Gl (X.blk s0 H0 scope ce fp) x) (hr : Room j X.A) (hn : n ≤ j) (hj : 2 ≤ j) (ha : PA (X.blk s0 H0 scope ce fp) [e] ta)
    (hdb : (x == ("__debug__" : Str)) = false := by decide) (hd : (a == ("__debug__" : Str)) = false := by decide) (hcd : (a == ("__classdict__" : Str)) = false := by decide)
    (he : starEach [e] ce = (false, eval e ce) :: starEach [] ce := by rfl) (hpl : (backTo pos (starEach [] ce)).any (·.1) = false := by rfl) :
    PE (X.blk s0 H0 scope ce fp) (.Call (.Name x p) [e] [] pos) (tToldB X (j - 2) TT ta σ0) := by
  obtain ⟨g, oc, od, pg, bg, sg, dV, kV, doc, pm, cdv, ct, an, osl, Ng, hm, kp, lk, hcg, hb, Sg, hN, hva, hG⟩ := cl
  have hr2 : Room (j - 2 + 1 + 1) X.A := by
    rw [show j - 2 + 1 + 1 = j by omega]
    exact hr
  refine ⟨fun pins s σ H Q I hh => wpAny_Call_Name_kw (ld_glob I hg hm ?_ hdb)⟩
  refine PySem.W.callWith_K (h₀ := X.base) I.ok.mod.kin kp (thn (ha.run pos pins s σ H _ I hh) ?_) he hpl
  rintro us s1 ⟨vs, H1, I1, rv, f, t, rfl, ⟨c', params, body, scp, hfo, hc, D⟩, q⟩
  refine ⟨I1.kIn, ?_⟩
  have IX := back_from I0 hf I1
  cases rv with
  | cons r0 r1 =>
  cases r1
  rename_i u
  have rc : codeAny (model X.prog X.w) X.A (.call (.ref g) ⟨[u], []⟩) (CR CX0 X.stack X.prog X.w H1 s1 Q E0) s1 := by
    refine run_ofS (N := Ng) (ps := [a]) (us := [u]) (vs := [.ref f]) lk hcg Sg hr2 IX.env0 (hb s1 [u] IX.kIn rfl) (.cons r0 .nil) rfl fun hr' => ?_
    obtain ⟨t', ht', hq'⟩ := hG X rfl rfl rfl rfl rfl (X.env.qual ++ "<lambda>") f c' _ s1 H1 Q (fun E H' Q' => t E σ0 H' Q') (fun W pn xe p1 p2 tk => pe_deedV (i := 0) IX D tk hr' hN hva hd hcd) (hr.mono hn) hfo hc q
    exact ⟨t', ht'.nox, hq'⟩
  refine wpAny_call (codeAny_mono rc fun r s2 hq => ?_)
  rcases r with e | fl
  · exact (show False from hq).elim
  cases fl with
  | ret u => exact I1.after hq
  | next => exact hq.elim
  | brk => exact hq.elim
  | cont => exact hq.elim
end
/-! ### two lists of the same values -/
/-- a value that is equal to itself -/
def SelfV (v : V) : Prop := flatV v = true ∨ ∃ a, v = .ref a
theorem eqV_self {v : V} (h : flatV v = true) : eqV v v = true := by
  cases v <;> simp [eqV, flatV] at h ⊢
theorem self_eqAt {A : Around} {s : Shared} {v : V} {u u' : Value} (r : RelV v u) (r' : RelV v u') (h : SelfV v) : SeqAt.EqAt A s u u' true := by
  rcases h with h | ⟨a, rfl⟩
  · have z := eqAt_V (A := A) (s := s) r r' h h
    rw [eqV_self h] at z
    exact z
  · cases (show u = Value.ref a from r)
    cases (show u' = Value.ref a from r')
    exact SeqAt.EqAt.same _
def rEqSm (K : PySem.W.Frag) (b : Bool) : R2 := fun x y H Q => ∃ (p q : Addr) (xs : List V), x = .ref p ∧ y = .ref q ∧ SqL K H p xs ∧ SqL K H q xs ∧ (∀ v ∈ xs, SelfV v) ∧ Q (.bl b) H
section
variable {X : Cx}
theorem op_eqSm (hu : X.A.units + 64 < cLine) : OpR X (compareOp .Eq) (rEqSm X.K true) := by
  intro pins s σ H x y v u Q I rx ry h
  obtain ⟨a, b, xs, rfl, rfl, ha, hb, hs, q⟩ := h
  cases (show v = Value.ref a from rx)
  cases (show u = Value.ref b from ry)
  obtain ⟨its, r1, e1, _⟩ := I.list ha
  obtain ⟨it2, r2, e2, _⟩ := I.list hb
  have l1 := r1.length
  have l2 := r2.length
  show wpAny _ _ (richCompare .Eq (.ref a) (.ref b)) _ _ _
  have z := SeqAt.RcAt.lists (A := X.A) (e := fun _ => true) e1.isList e2.isList (by simp; omega) (by omega) (fun j h1 h2 => by
    have k1 : j < xs.length := by rw [l1]; simpa using h1
    obtain ⟨w1, f1, g1⟩ := r1.get (List.getElem?_eq_getElem k1)
    obtain ⟨w2, f2, g2⟩ := r2.get (List.getElem?_eq_getElem k1)
    rw [List.getElem?_eq_getElem (by simpa using h1)] at f1
    rw [List.getElem?_eq_getElem (by simpa using h2)] at f2
    cases f1
    cases f2
    simpa using self_eqAt g1 g2 (hs _ (List.getElem_mem k1)))
  rw [List.all_eq_true.mpr (fun _ _ => rfl)] at z
  exact z X.prog X.w X.xe _ ⟨.bl true, H, I, rfl, q⟩
theorem op_neSm (hu : X.A.units + 64 < cLine) : OpR X (compareOp .NotEq) (rEqSm X.K false) := by
  intro pins s σ H x y v u Q I rx ry h
  obtain ⟨a, b, xs, rfl, rfl, ha, hb, hs, q⟩ := h
  cases (show v = Value.ref a from rx)
  cases (show u = Value.ref b from ry)
  obtain ⟨its, r1, e1, _⟩ := I.list ha
  obtain ⟨it2, r2, e2, _⟩ := I.list hb
  have l1 := r1.length
  have l2 := r2.length
  show wpAny _ _ (richCompare .NotEq (.ref a) (.ref b)) _ _ _
  have z := SeqAt.RcNeAt.lists (A := X.A) (e := fun _ => true) e1.isList e2.isList (by simp; omega) (by omega) (fun j h1 h2 => by
    have k1 : j < xs.length := by rw [l1]; simpa using h1
    obtain ⟨w1, f1, g1⟩ := r1.get (List.getElem?_eq_getElem k1)
    obtain ⟨w2, f2, g2⟩ := r2.get (List.getElem?_eq_getElem k1)
    rw [List.getElem?_eq_getElem (by simpa using h1)] at f1
    rw [List.getElem?_eq_getElem (by simpa using h2)] at f2
    cases f1
    cases f2
    simpa using self_eqAt g1 g2 (hs _ (List.getElem_mem k1)))
  rw [List.all_eq_true.mpr (fun _ _ => rfl)] at z
  exact z X.prog X.w X.xe _ ⟨.bl false, H, I, rfl, q⟩
end
/-! ### an own - whose other side is anything -/
section
variable {X : Cx} {CX : CXT} {C g : Addr} {n k j : Nat} {sp : Sp} {E : XK}
open PySem.W (Looks Frag findIn clsIn InstAt) in
theorem op_subAny (hc : PySem.W.selfFirst X.K C = true) (hs : PySem.W.findIn X.K (.ref C) "__sub__" = some (some (.ref g))) (hf : PySem.W.isFn X.K (.ref g) = true) (F : FnR X.prog X.w X.K X.mg X.base CX n g sp) (hr : Room n X.A) (hx : Passes CX X E) :
    OpR X (binaryOp .Sub) (rOpAny X.K C "sub" sp E) := by
  intro pins s σ H x y v u Q I rx ry h
  obtain ⟨a, dx, fs, t, rfl, ha, ty, hn, q⟩ := h
  cases (show v = Value.ref a from rx)
  obtain ⟨mA, O, _⟩ := ins_get I.hok ha
  obtain ⟨od, J, _⟩ := O.look
  obtain ⟨Pk, Z, pk, _⟩ := kit_of I ry ty
  have cl : wpAny (model X.prog X.w) X.A (call (.ref g) [.ref a, u]) (PySem.W.CmpBack (EP X pins σ Q)) X.xe s := by
    refine wpAny_mono (wpAny_call (run_fnR (us := [.ref a, u]) (vs := [.ref a, y]) F hr hx I (.cons rfl (.cons ry .nil)) q)) (fun r s' z => ?_) fun _ _ e => e
    obtain ⟨z', H', I', rz, qz⟩ := z
    exact SlX.cmpback rz ⟨z', H', I', rz, qz⟩
  have one : wpAny (model X.prog X.w) X.A (binaryOp1 "sub" (.ref a) u) (PySem.W.CmpBack (EP X pins σ Q) |> fun R r s' => ∃ v, r = some v ∧ R v s') X.xe s := by
    rcases hn with hn | hn | ⟨T, rfl, o⟩
    · exact bin1_own (nm := "sub") I.kIn J (Z.ty _ _ I.kIn pk) hc (.inl hn) (by rw [du_sub]; exact hs) hf (wpAny_mono cl (fun v s' z => by cases v <;> first | exact z.elim | exact ⟨_, rfl, z⟩) fun _ _ e => e)
    · exact bin1_own (nm := "sub") I.kIn J (Z.ty _ _ I.kIn pk) hc (.inr hn) (by rw [du_sub]; exact hs) hf (wpAny_mono cl (fun v s' z => by cases v <;> first | exact z.elim | exact ⟨_, rfl, z⟩) fun _ _ e => e)
    · exact bin1_type (nm := "sub") I.kIn J (Z.ty _ _ I.kIn pk) o (by rw [du_sub]; exact hs) hf (wpAny_mono cl (fun v s' z => by cases v <;> first | exact z.elim | exact ⟨_, rfl, z⟩) fun _ _ e => e)
  unfold binaryOp
  refine wpAny_holding (wpAny_bind (wpAny_mono one (fun v s' z => ?_) fun _ _ e => e))
  obtain ⟨v', rfl, z⟩ := z
  cases v' <;> first | exact z.elim | exact wpAny_pure z
theorem op_subSAE (c : CalSE X.prog X.w X.K X.mg X.base k C "__sub__" sp) (px : Passes (L2.CX X.prog X.w) X E) (hc : PySem.W.selfFirst X.K C = true) (hr : Room j X.A) (hk : k ≤ j) : OpR X (binaryOp .Sub) (rOpAny X.K C "sub" sp E) := by
  obtain ⟨f, F, h1, h2⟩ := c
  exact op_subAny hc h1 h2 F (hr.mono hk) px
end
/-! ### C.m(..) and x(..) that may raise -/
def CalTE (P : Program) (w : World) (K : PySem.W.Frag) (mg : Str → Option Value) (base : Heap) (k : Nat) (C : Addr) (m : Str) (sp : Sp) : Prop := ∃ p f fd ps mc, FnOk P w K mg base (L2.CX P w) k f fd ps sp ∧ SMet K C mc m p f ∧ Binds K fd ps []
def CalTKE (P : Program) (w : World) (K : PySem.W.Frag) (mg : Str → Option Value) (base : Heap) (k : Nat) (C : Addr) (m : Str) (ks : List Str) (gV : List V → List V → List V) (sp : Sp) : Prop := ∃ p f fd ps mc g, FnOk P w K mg base (L2.CX P w) k f fd ps sp ∧ SMet K C mc m p f ∧ KBn K fd ps 0 ks g gV
def CalOE (P : Program) (w : World) (K : PySem.W.Frag) (mg : Str → Option Value) (base : Heap) (k : Nat) (C : Addr) (sp : Sp) : Prop := ∃ g, FnR P w K mg base (L2.CX P w) k g sp ∧ StX.CallO K C g
def CalOKE (P : Program) (w : World) (K : PySem.W.Frag) (mg : Str → Option Value) (base : Heap) (k : Nat) (C : Addr) (ks : List Str) (gV : List V → List V → List V) (sp : Sp) : Prop := ∃ g fd ps gg, FnOk P w K mg base (L2.CX P w) k g fd ps sp ∧ StX.CallO K C g ∧ KBn K fd ps 1 ks gg gV
section
variable {X : Cx} {k j : Nat} {x m : Str} {C : Addr} {sp : Sp} {e o fe : Expr} {es : List Expr} {kws : List Keyword} {ks : List Str} {gV : List V → List V → List V} {t tk : TA} {ta tf : TE} {p pos apos : Pos} {E : XK}
theorem pe_tE {pl : Sem Bool} (he : PE X o ta) (c : CalTE X.prog X.w X.K X.mg X.base k C m sp) (px : Passes (L2.CX X.prog X.w) X E) (hr : Room j X.A) (hk : k ≤ j) (ha : PA X (e :: es) t)
    (h1 : starEach (e :: es) X.env = (false, eval e X.env) :: starEach es X.env := by rfl) (h2 : (backTo pos (starEach es X.env)).any (·.1) = false := by rfl)
    (h3 : eval (.Call (.Attribute o m apos) (e :: es) [] pos) X.env = (do
      let ov ← eval o X.env
      standAt apos.atName
      let (fv, fi) ← holding [ov] (getMethod ov m pl)
      callWith pos fv fi (backTo pos (starEach (e :: es) X.env)) (backToKw pos (keywordEach [] X.env))) := by rfl) :
    PE X (.Call (.Attribute o m apos) (e :: es) [] pos) (tSMeth C sp [] E ta t) := by
  obtain ⟨q, f, fd, ps, mc, F, s, b⟩ := c
  exact pe_smeth he s F (hr.mono hk) b .nil px ha h1 h2 h3
theorem pe_tKE {pl : Sem Bool} (he : PE X o ta) (c : CalTKE X.prog X.w X.K X.mg X.base k C m ks gV sp) (px : Passes (L2.CX X.prog X.w) X E) (hr : Room j X.A) (hk : k ≤ j) (hkw : PK X kws tk)
    (h1 : (backToKw pos (keywordEach kws X.env)).all (·.1.isSome) = true := by rfl) (h2 : (backToKw pos (keywordEach kws X.env)).filterMap (·.1) = ks := by rfl)
    (h3 : ((backTo pos (starEach [] X.env)).any (·.1) || (backToKw pos (keywordEach kws X.env)).any (·.1.isNone)) = false := by rfl)
    (h4 : eval (.Call (.Attribute o m apos) [] kws pos) X.env = (do
      let ov ← eval o X.env
      standAt apos.atName
      let (fv, fi) ← holding [ov] (getMethod ov m pl)
      callWith pos fv fi (backTo pos (starEach [] X.env)) (backToKw pos (keywordEach kws X.env))) := by rfl) :
    PE X (.Call (.Attribute o m apos) [] kws pos) (tSMethK C ks.length sp gV E ta tk) := by
  obtain ⟨q, f, fd, ps, mc, g, F, s, b⟩ := c
  exact pe_smethK he s F (hr.mono hk) b px hkw h1 h2 h3 h4
/-- what x(..) reads, told without its context -/
def tCallI (C : Addr) (sp : Sp) (E : XK) (tf : TE) (t : TA) : TE := fun σ H0 R => tf σ H0 fun x0 Ha => ∃ z, x0 = V.ref z ∧ t σ Ha fun ws Hb => ((∃ dx sl, SlX.Slt Hb z C dx sl) ∨ ∃ dx gs, Hb z = some (.ins C dx gs)) ∧ sp (V.ref z :: ws) Hb R E
theorem pe_oE (hf : PE X fe tf) (c : CalOE X.prog X.w X.K X.mg X.base k C sp) (px : Passes (L2.CX X.prog X.w) X E) (hr : Room j X.A) (hk : k ≤ j) (ha : PA X (e :: es) t)
    (h1 : eval (.Call fe (e :: es) [] pos) X.env = (do callWith pos (← eval fe X.env) [] (backTo pos (starEach (e :: es) X.env)) (backToKw pos (keywordEach [] X.env))) := by rfl)
    (h2 : starEach (e :: es) X.env = (false, eval e X.env) :: starEach es X.env := by rfl) (h3 : (backTo pos (starEach es X.env)).any (·.1) = false := by rfl) : PE X (.Call fe (e :: es) [] pos) (tCallI C sp E tf t) := by
  obtain ⟨g, F, c⟩ := c
  exact StX.pe_callO hf c F (hr.mono hk) px ha h1 h2 h3
theorem pe_oKE (hf : PE X fe tf) (c : CalOKE X.prog X.w X.K X.mg X.base k C ks gV sp) (px : Passes (L2.CX X.prog X.w) X E) (hr : Room j X.A) (hk : k ≤ j) (hkw : PK X kws tk)
    (h1 : (backToKw pos (keywordEach kws X.env)).all (·.1.isSome) = true := by rfl) (h2 : (backToKw pos (keywordEach kws X.env)).filterMap (·.1) = ks := by rfl)
    (h3 : eval (.Call fe [] kws pos) X.env = (do callWith pos (← eval fe X.env) [] (backTo pos (starEach [] X.env)) (backToKw pos (keywordEach kws X.env))) := by rfl)
    (h4 : ((backTo pos (starEach [] X.env)).any (·.1) || (backToKw pos (keywordEach kws X.env)).any (·.1.isNone)) = false := by rfl) : PE X (.Call fe [] kws pos) (tCallOK C ks.length gV sp E tf tk) := by
  obtain ⟨g, fd, ps, gg, F, c, b⟩ := c
  exact pe_callOK hf c F b (hr.mono hk) px hkw h1 h2 h3 h4
end
end UL
/-! ### a heap that grows, values of a list to pick from -/
namespace UL
open PySem PySem.Spec PyProof.Rows L2 LamX
/-- a heap grows: lists stay lists, tables stay tables, all other things stay -/
structure Ev (H H' : Hp) : Prop where
  k : ∀ b o, H b = some o → (∀ xs, o ≠ .lst xs) → (∀ ps, o ≠ .tbl ps) → H' b = some o
  l : ∀ b xs, H b = some (.lst xs) → ∃ ys, H' b = some (.lst ys)
theorem Ev.refl (H : Hp) : Ev H H := ⟨fun _ _ h _ _ => h, fun _ xs h => ⟨xs, h⟩⟩
theorem Ev.trans {H H1 H2 : Hp} (a : Ev H H1) (b : Ev H1 H2) : Ev H H2 := ⟨fun c o h n m => b.k c o (a.k c o h n m) n m, fun c xs h => (a.l c xs h).elim fun ys z => b.l c ys z⟩
theorem Ev.same {H H' : Hp} (s : L2.Same H H') : Ev H H' := ⟨fun b o h _ _ => s b o h, fun b xs h => ⟨xs, s b _ h⟩⟩
theorem Ev.stay {p : Addr} {H H' : Hp} (s : Stay p H H') (h1 : Pot H p) (h2 : Pot H' p) : Ev H H' := by
  obtain ⟨a, b, e, _⟩ := h1
  obtain ⟨a', b', e', _⟩ := h2
  refine ⟨fun c o h n m => s c o (fun z => by subst z; rw [e] at h; exact n _ (Option.some.inj h).symm) h, fun c xs h => ?_⟩
  by_cases hc : c = p
  · subst hc
    exact ⟨_, e'⟩
  · exact ⟨xs, s c _ hc h⟩
theorem Ev.new {H : Hp} {a : Addr} {o : HO} (h : H a = none) : Ev H (upd H a o) := Ev.same (same_new h)
theorem Ev.put {H : Hp} {a : Addr} {xs ys : List V} (h : H a = some (.lst xs)) : Ev H (upd H a (.lst ys)) := by
  refine ⟨fun c o e n m => ?_, fun c zs e => ?_⟩
  · rw [upd_ne (fun z => by subst z; rw [h] at e; exact n _ (Option.some.inj e).symm)]
    exact e
  · by_cases hc : c = a
    · subst hc
      exact ⟨_, upd_same⟩
    · rw [upd_ne hc]
      exact ⟨_, e⟩
theorem Ev.ext {H H' : Hp} (s : LamX.ExtN H H') : Ev H H' := ⟨fun b o h _ m => s b o h m, fun b xs h => ⟨xs, s b _ h (fun ps z => by cases z)⟩⟩
theorem Ev.ins {H H' : Hp} {a C dx : Addr} {fs : List (Str × V)} (s : Ev H H') (h : H a = some (.ins C dx fs)) : H' a = some (.ins C dx fs) := s.k a _ h (fun _ z => by cases z) (fun _ z => by cases z)
theorem Ev.tup {H H' : Hp} {a : Addr} {xs : List V} (s : Ev H H') (h : H a = some (.tup xs)) : H' a = some (.tup xs) := s.k a _ h (fun _ z => by cases z) (fun _ z => by cases z)
theorem Ev.keep {H H' : Hp} (s : Ev H H') {a : Addr} {o : HO} (h : H a = some o) (n : (match o with | .lst _ => false | .tbl _ => false | _ => true) = true) : H' a = some o := s.k a o h (fun _ z => by subst z; cases n) (fun _ z => by subst z; cases n)
theorem Vd.ev {K : PySem.W.Frag} {H H' : Hp} {v : V} {d : PyData} (h : Vd K H v d) (s : Ev H H') : Vd K H' v d := by
  cases h with
  | non => exact .non
  | bl b => exact .bl b
  | int i => exact .int i
  | str x => exact .str x
  | lst h =>
    obtain ⟨xs, h⟩ := h
    exact .lst (s.l _ _ h)
  | tup h =>
    obtain ⟨xs, h⟩ := h
    exact .tup ⟨_, s.tup h⟩
  | dct h =>
    obtain ⟨kvs, h⟩ := h
    exact .dct ⟨_, s.keep h rfl⟩
theorem TyX.ev {K : PySem.W.Frag} {H H' : Hp} {v : V} {t : Value} (h : TyX K H v t) (s : Ev H H') : TyX K H' v t := by
  cases h with
  | base h =>
    cases h with
    | non => exact .base .non
    | bl b => exact .base (.bl b)
    | int i => exact .base (.int i)
    | str x => exact .base (.str x)
    | flt x => exact .base (.flt x)
    | lst e =>
      obtain ⟨ys, e'⟩ := s.l _ _ e
      exact .base (.lst e')
    | frz e => exact .base (.frz (s.keep e rfl))
    | tup e => exact .base (.tup (s.tup e))
    | dK e => exact .base (.dK (s.keep e rfl))
    | dT e => exact .base (.dT (s.keep e rfl))
    | ins e cl ha hn htk hm => exact .base (.ins (s.ins e) cl ha hn htk hm)
  | byt b => exact .byt b
  | set e => exact .set (s.keep e rfl)
  | kList e c => exact .kList e c
  | kTuple e c => exact .kTuple e c
  | kDict e c => exact .kDict e c
  | fTuple e => exact .fTuple (s.keep e rfl)
  | fDict e => exact .fDict (s.keep e rfl)
theorem Kept.ev {X : Cx} {k : Nat} {t : XK → TE} {f : Addr} {H H' : Hp} (h : Kept X k t f H) (s : Ev H H') : Kept X k t f H' := by
  obtain ⟨c', params, body, scope, h1, h2, D⟩ := h
  exact ⟨c', params, body, scope, s.keep h1 rfl, s.keep h2 rfl, D⟩
/-- all that a list offers are values of which P says so -/
def Nm (K : PySem.W.Frag) (H : Hp) (P : PyData → Bool) (xs : List V) : Prop := ∀ v ∈ xs, ∃ d, Vd K H v d ∧ P d = true
theorem Nm.nil {K : PySem.W.Frag} {H : Hp} {P : PyData → Bool} : Nm K H P [] := fun _ h => by cases h
theorem Nm.cons {K : PySem.W.Frag} {H : Hp} {P : PyData → Bool} {v : V} {d : PyData} {xs : List V} (h1 : Vd K H v d) (h2 : P d = true) (r : Nm K H P xs) : Nm K H P (v :: xs) := fun u hu => by
  rcases List.mem_cons.mp hu with rfl | hu
  · exact ⟨d, h1, h2⟩
  · exact r u hu
theorem Nm.app {K : PySem.W.Frag} {H : Hp} {P : PyData → Bool} {xs ys : List V} (a : Nm K H P xs) (b : Nm K H P ys) : Nm K H P (xs ++ ys) := fun u hu => (List.mem_append.mp hu).elim (a u) (b u)
theorem Nm.get {K : PySem.W.Frag} {H : Hp} {P : PyData → Bool} {xs : List V} (a : Nm K H P xs) {i : Nat} {v : V} (h : xs[i]? = some v) : ∃ d, Vd K H v d ∧ P d = true := a v (List.mem_of_getElem? h)
theorem Nm.ev {K : PySem.W.Frag} {H H' : Hp} {P : PyData → Bool} {xs : List V} (a : Nm K H P xs) (s : Ev H H') : Nm K H' P xs := fun v hv => by
  obtain ⟨d, h, q⟩ := a v hv
  exact ⟨d, Vd.ev h s, q⟩
theorem Nm.stay {K : PySem.W.Frag} {H H' : Hp} {P : PyData → Bool} {xs : List V} {p : Addr} (a : Nm K H P xs) (s : Stay p H H') (h1 : Pot H p) (h2 : Pot H' p) : Nm K H' P xs := a.ev (Ev.stay s h1 h2)
theorem pick_of {K : PySem.W.Frag} {H H' : Hp} {P : PyData → Bool} {xs : List V} {p : Addr} {i : Nat} {v : V} (hi : xs[i]? = some v) (s : Stay p H H') (h2 : Pot H' p) (h1 : Pot H p) (a : Nm K H P xs) : ∃ d, Vd K H' v d ∧ P d = true := (a.stay s h1 h2).get hi
inductive ShD : HO → PyData → Prop
  | lst (xs : List V) : ShD (.lst xs) (.list [])
  | tup (xs : List V) : ShD (.tup xs) (.tuple [])
  | dct (kvs : List (Key × V)) : ShD (.dK kvs) (.dict [])
theorem vd_ref {K : PySem.W.Frag} {H : Hp} {a : Addr} {o : HO} {d : PyData} (h : H a = some o) (s : ShD o d) : Vd K H (.ref a) d := by
  cases s with
  | lst xs => exact .lst ⟨_, h⟩
  | tup xs => exact .tup ⟨_, h⟩
  | dct kvs => exact .dct ⟨_, h⟩
theorem three_1 {P1 P2 P3 : Addr} {q1 q2 q3 : Str} (a : P1 ≠ P2) (b : P1 ≠ P3) : ∀ p ∈ [(P1, q1), (P2, q2), (P3, q3)], p.1 = P1 → p.2 = q1 := fun p hp e => by
  simp only [List.mem_cons, List.not_mem_nil, or_false] at hp
  rcases hp with rfl | rfl | rfl
  · rfl
  · exact absurd e.symm a
  · exact absurd e.symm b
theorem three_2 {P1 P2 P3 : Addr} {q1 q2 q3 : Str} (a : P1 ≠ P2) (b : P2 ≠ P3) : ∀ p ∈ [(P1, q1), (P2, q2), (P3, q3)], p.1 = P2 → p.2 = q2 := fun p hp e => by
  simp only [List.mem_cons, List.not_mem_nil, or_false] at hp
  rcases hp with rfl | rfl | rfl
  · exact absurd e a
  · rfl
  · exact absurd e.symm b
theorem three_3 {P1 P2 P3 : Addr} {q1 q2 q3 : Str} (a : P1 ≠ P3) (b : P2 ≠ P3) : ∀ p ∈ [(P1, q1), (P2, q2), (P3, q3)], p.1 = P3 → p.2 = q3 := fun p hp e => by
  simp only [List.mem_cons, List.not_mem_nil, or_false] at hp
  rcases hp with rfl | rfl | rfl
  · exact absurd e a
  · exact absurd e b
  · rfl
/-! ### a list of pairs: a kept lambda, what is due -/
/-- what a deed does, told in the names' values of its maker -/
abbrev Dd := (XK → Hp → VK → Prop) → Hp → V → Prop
/-- all stays but the list at L, the pot at p (and the tables) -/
structure Fr (L p : Addr) (H H' : Hp) : Prop where
  ev : Ev H H'
  f : ∀ b o, b ≠ L → b ≠ p → H b = some o → (∀ ps, o ≠ .tbl ps) → H' b = some o
theorem Fr.trans {L p : Addr} {H H1 H2 : Hp} (a : Fr L p H H1) (b : Fr L p H1 H2) : Fr L p H H2 := ⟨a.ev.trans b.ev, fun c o n m e t => b.f c o n m (a.f c o n m e t) t⟩
theorem Fr.same {L p : Addr} {H H' : Hp} (s : L2.Same H H') : Fr L p H H' := ⟨Ev.same s, fun b o _ _ e _ => s b o e⟩
theorem Fr.new {L p : Addr} {H : Hp} {a : Addr} {o : HO} (h : H a = none) : Fr L p H (upd H a o) := Fr.same (same_new h)
theorem Fr.put {L p : Addr} {H : Hp} {xs ys : List V} (h : H L = some (.lst xs)) : Fr L p H (upd H L (.lst ys)) := ⟨Ev.put h, fun b o n _ e _ => by rw [upd_ne n]; exact e⟩
theorem Fr.ext {L p : Addr} {H H' : Hp} (s : LamX.ExtN H H') : Fr L p H H' := ⟨Ev.ext s, fun b o _ _ e t => s b o e t⟩
theorem Fr.stay {L p : Addr} {H H' : Hp} (s : Stay p H H') (h1 : Pot H p) (h2 : Pot H' p) : Fr L p H H' := ⟨Ev.stay s h1 h2, fun b o _ n e _ => s b o n e⟩
def MonD (L p : Addr) (D : Dd) : Prop := ∀ tl H H' v, Fr L p H H' → D tl H v → D tl H' v
def GoodAt (X : Cx) (k : Nat) (S : L2.St → Prop) (D : Dd) (x : V) (H : Hp) : Prop :=
  ∃ (a f : Addr) (v : V) (t : XK → TE), x = .ref a ∧ H a = some (.tup [.ref f, v]) ∧ SelfV v ∧ Kept X k t f H ∧ ∀ σ, S σ → D (fun E H' Q' => t E σ H' Q') H v
theorem GoodAt.ev {X : Cx} {k : Nat} {S : L2.St → Prop} {D : Dd} {x : V} {H H' : Hp} {L p : Addr} (hD : MonD L p D) (g : GoodAt X k S D x H) (e : Fr L p H H') : GoodAt X k S D x H' := by
  obtain ⟨a, f, v, t, ex, h1, hs, h2, h3⟩ := g
  exact ⟨a, f, v, t, ex, e.ev.tup h1, hs, Kept.ev h2 e.ev, fun σ s => hD _ _ _ _ e (h3 σ s)⟩
theorem GoodAt.mono {X : Cx} {k : Nat} {S S' : L2.St → Prop} {D : Dd} {x : V} {H : Hp} (g : GoodAt X k S D x H) (e : ∀ σ, S' σ → S σ) : GoodAt X k S' D x H := by
  obtain ⟨a, f, v, t, ex, h1, hs, h2, h3⟩ := g
  exact ⟨a, f, v, t, ex, h1, hs, h2, fun σ s => h3 σ (e σ s)⟩
/-- the list at L: all its pairs are good, they are at most n -/
def RowsAt (X : Cx) (k n : Nat) (S : L2.St → Prop) (D : Dd) (L : Addr) (H : Hp) : Prop := ∃ xs, H L = some (.lst xs) ∧ xs.length ≤ n ∧ ∀ x ∈ xs, GoodAt X k S D x H
theorem RowsAt.mono {X : Cx} {k n : Nat} {S S' : L2.St → Prop} {D : Dd} {L : Addr} {H : Hp} (g : RowsAt X k n S D L H) (e : ∀ σ, S' σ → S σ) : RowsAt X k n S' D L H := by
  obtain ⟨xs, h1, h2, h3⟩ := g
  exact ⟨xs, h1, h2, fun x hx => (h3 x hx).mono e⟩
theorem RowsAt.ev {X : Cx} {k n : Nat} {S : L2.St → Prop} {D : Dd} {L p : Addr} {H H' : Hp} (hD : MonD L p D) (g : RowsAt X k n S D L H) (e : Fr L p H H') (l : ∀ xs, H L = some (.lst xs) → H' L = some (.lst xs)) : RowsAt X k n S D L H' := by
  obtain ⟨xs, h1, h2, h3⟩ := g
  exact ⟨xs, l xs h1, h2, fun x hx => (h3 x hx).ev hD e⟩
/-- the first pair -/
theorem rows_one {X : Cx} {k : Nat} {S : L2.St → Prop} {D : Dd} {L p a f : Addr} {v : V} {t : XK → TE} {H1 : Hp} (hD : MonD L p D) (kp : Kept X k t f H1) (ha : H1 a = none) (hL : upd H1 a (.tup [.ref f, v]) L = none) (hs : SelfV v)
    (g : ∀ σ, S σ → D (fun E H' Q' => t E σ H' Q') H1 v) : RowsAt X k 1 S D L (upd (upd H1 a (.tup [.ref f, v])) L (.lst [.ref a])) := by
  have e1 : Fr L p H1 (upd H1 a (.tup [.ref f, v])) := Fr.new ha
  have e2 : Fr L p _ (upd (upd H1 a (.tup [.ref f, v])) L (.lst [.ref a])) := Fr.new hL
  refine ⟨[.ref a], upd_same, Nat.le_refl _, fun x hx => ?_⟩
  rw [List.mem_singleton.mp hx]
  exact ⟨a, f, v, t, rfl, e2.ev.tup upd_same, hs, Kept.ev kp (e1.trans e2).ev, fun σ s => hD _ _ _ _ (e1.trans e2) (g σ s)⟩
/-- one pair more -/
theorem rows_add {X : Cx} {k n : Nat} {S : L2.St → Prop} {D : Dd} {L p a f : Addr} {v : V} {t : XK → TE} {H H1 : Hp} {xs : List V} (hD : MonD L p D) (r : RowsAt X k n S D L H) (ex : LamX.ExtN H H1) (kp : Kept X k t f H1) (ha : H1 a = none) (hs : SelfV v)
    (hL : H L = some (.lst xs)) (g : ∀ σ, S σ → D (fun E H' Q' => t E σ H' Q') H1 v) : RowsAt X k (n + 1) S D L (upd (upd H1 a (.tup [.ref f, v])) L (.lst (xs ++ [.ref a]))) := by
  obtain ⟨ys, h1, h2, h3⟩ := r
  rw [hL] at h1
  cases h1
  have l1 : H1 L = some (.lst xs) := ex _ _ hL (fun _ z => by cases z)
  have nLa : L ≠ a := ne_of_none l1 ha
  have e1 : Fr L p H1 (upd H1 a (.tup [.ref f, v])) := Fr.new ha
  have e2 : Fr L p _ (upd (upd H1 a (.tup [.ref f, v])) L (.lst (xs ++ [.ref a]))) := Fr.put (by rw [upd_ne nLa]; exact l1)
  refine ⟨xs ++ [.ref a], upd_same, by simp; omega, fun x hx => ?_⟩
  rcases List.mem_append.mp hx with hx | hx
  · exact (h3 x hx).ev hD ((Fr.ext ex).trans (e1.trans e2))
  · rw [List.mem_singleton.mp hx]
    exact ⟨a, f, v, t, rfl, e2.ev.tup upd_same, hs, Kept.ev kp (e1.trans e2).ev, fun σ s => hD _ _ _ _ (e1.trans e2) (g σ s)⟩
theorem Vd.self {K : PySem.W.Frag} {H : Hp} {v : V} {d : PyData} (h : Vd K H v d) : SelfV v := by
  cases h with
  | non => exact .inl rfl
  | bl b => exact .inl rfl
  | int i => exact .inl rfl
  | str x => exact .inl rfl
  | lst h => exact .inr ⟨_, rfl⟩
  | tup h => exact .inr ⟨_, rfl⟩
  | dct h => exact .inr ⟨_, rfl⟩
theorem tabs_keep {T : List (Addr × Str)} {H H' : Hp} (h : LamX.Tabs T H) (s : Keep H H') : LamX.Tabs T H' := fun p hp => by
  obtain ⟨ps, h1, h2, h3⟩ := h p hp
  refine ⟨ps, s _ _ h1 (by simp), h2, fun pos cv hc => ?_⟩
  obtain ⟨c, e1, e2⟩ := h3 pos cv hc
  exact ⟨c, e1, s _ _ e2 (fun xs z => by unfold LamX.CodeO at z; cases z)⟩
theorem keep_put {H : Hp} {a : Addr} {xs ys : List V} (h : H a = some (.lst xs)) : Keep H (upd H a (.lst ys)) := fun c o e n => by
  rw [upd_ne (fun z => by subst z; rw [h] at e; exact n _ (Option.some.inj e).symm)]
  exact e
/-- all stays but the pot at p (and the tables) -/
def StT (p : Addr) (H H' : Hp) : Prop := ∀ b o, b ≠ p → H b = some o → (∀ ps, o ≠ .tbl ps) → H' b = some o
theorem StT.trans {p : Addr} {H H1 H2 : Hp} (a : StT p H H1) (b : StT p H1 H2) : StT p H H2 := fun c o n e t => b c o n (a c o n e t) t
theorem StT.stay {p : Addr} {H H' : Hp} (s : Stay p H H') : StT p H H' := fun b o n e _ => s b o n e
theorem StT.ev {p : Addr} {H H' : Hp} (s : StT p H H') (h1 : Pot H p) (h2 : Pot H' p) : Ev H H' := by
  obtain ⟨a, b, e, _⟩ := h1
  obtain ⟨a', b', e', _⟩ := h2
  refine ⟨fun c o h n m => s c o (fun z => by subst z; rw [e] at h; exact n _ (Option.some.inj h).symm) h m, fun c xs h => ?_⟩
  by_cases hc : c = p
  · subst hc
    exact ⟨_, e'⟩
  · exact ⟨xs, s c _ hc h (fun _ z => by cases z)⟩
/-- the pairs so far, and what stands beside them; in G the list was not there yet -/
structure RS (X : Cx) (k n : Nat) (S : L2.St → Prop) (D : Dd) (L : Addr) (T : List (Addr × Str)) (p : Addr) (G H0 H : Hp) : Prop where
  rows : RowsAt X k n S D L H
  tb : LamX.Tabs T H
  pot : Pot H p
  ev : Ev H0 H
  nL : L ≠ p
  nw : ∀ o, G L = some o → ∃ ps, o = .tbl ps
  gf : StT p G H
theorem RS.rebase {X : Cx} {k n : Nat} {S : L2.St → Prop} {D : Dd} {L : Addr} {T : List (Addr × Str)} {p : Addr} {G H0 H : Hp} (r : RS X k n S D L T p G H0 H) : RS X k n S D L T p G H H := ⟨r.rows, r.tb, r.pot, Ev.refl _, r.nL, r.nw, r.gf⟩
theorem pot_ext {p : Addr} {H H' : Hp} (h : Pot H p) (e : LamX.ExtN H H') : Pot H' p := by
  obtain ⟨a, b, h1, h2⟩ := h
  exact ⟨a, b, e _ _ h1 (fun _ z => by cases z), h2⟩
theorem RS.one {X : Cx} {k : Nat} {S : L2.St → Prop} {D : Dd} {L a f p : Addr} {T : List (Addr × Str)} {v : V} {t : XK → TE} {H H1 : Hp} (hD : MonD L p D) (hp : Pot H p) (ex : LamX.ExtN H H1) (tb : LamX.Tabs T H1) (kp : Kept X k t f H1) (ha : H1 a = none) (hL : upd H1 a (.tup [.ref f, v]) L = none) (hs : SelfV v)
    (g : ∀ σ, S σ → D (fun E H' Q' => t E σ H' Q') H1 v) : RS X k 1 S D L T p H H (upd (upd H1 a (.tup [.ref f, v])) L (.lst [.ref a])) := by
  have p1 := pot_ext hp ex
  have p2 : Pot (upd H1 a (.tup [.ref f, v])) p := Pot.same p1 (same_new ha)
  have s2 := (same_new (o := .tup [.ref f, v]) ha).trans (same_new (o := .lst [.ref a]) hL)
  refine ⟨rows_one hD kp ha hL hs g, tabs_keep tb (UL.Same.keep s2), Pot.same p1 s2, (Ev.ext ex).trans (Ev.same s2), ne_pot hL p2, fun o e => ?_, fun b o _ e t => s2 _ _ (ex _ _ e t)⟩
  apply Classical.byContradiction
  intro n
  have e1 := ex _ _ e (fun ps z => n ⟨ps, z⟩)
  rw [upd_ne (ne_of_none e1 ha)] at hL
  rw [hL] at e1
  cases e1
theorem RS.add {X : Cx} {k n : Nat} {S : L2.St → Prop} {D : Dd} {L a f p : Addr} {T : List (Addr × Str)} {v : V} {t : XK → TE} {G H0 H H1 : Hp} {xs : List V} (hD : MonD L p D) (r : RS X k n S D L T p G H0 H) (ex : LamX.ExtN H H1) (tb : LamX.Tabs T H1) (kp : Kept X k t f H1) (ha : H1 a = none) (hs : SelfV v)
    (hL : H L = some (.lst xs)) (g : ∀ σ, S σ → D (fun E H' Q' => t E σ H' Q') H1 v) : RS X k (n + 1) S D L T p G H0 (upd (upd H1 a (.tup [.ref f, v])) L (.lst (xs ++ [.ref a]))) := by
  have l1 : H1 L = some (.lst xs) := ex _ _ hL (fun _ z => by cases z)
  have l2 : upd H1 a (.tup [.ref f, v]) L = some (.lst xs) := by rw [upd_ne (ne_of_none l1 ha)]; exact l1
  have e1 : Ev H1 (upd H1 a (.tup [.ref f, v])) := Ev.new ha
  have e2 : Ev _ (upd (upd H1 a (.tup [.ref f, v])) L (.lst (xs ++ [.ref a]))) := Ev.put l2
  have p2 : Pot (upd H1 a (.tup [.ref f, v])) p := Pot.same (pot_ext r.pot ex) (same_new ha)
  refine ⟨rows_add hD r.rows ex kp ha hs hL g, tabs_keep (tabs_keep tb (UL.Same.keep (same_new ha))) (keep_put l2), ?_, r.ev.trans ((Ev.ext ex).trans (e1.trans e2)), r.nL, r.nw, fun b o n e t => ?_⟩
  · obtain ⟨x, y, h1, h2⟩ := p2
    exact ⟨x, y, by rw [upd_ne r.nL.symm]; exact h1, h2⟩
  · have nbL : b ≠ L := fun z => by
      subst z
      obtain ⟨ps, z⟩ := r.nw o e
      exact t ps z
    rw [upd_ne nbL]
    exact same_new ha _ _ (ex _ _ (r.gf b o n e t) t)
theorem RS.stay {X : Cx} {k n : Nat} {S : L2.St → Prop} {D : Dd} {L p : Addr} {T : List (Addr × Str)} {G H0 H H' : Hp} (hD : MonD L p D) (r : RS X k n S D L T p G H0 H) (s : Stay p H H') (hp : Pot H' p) : RS X k n S D L T p G H0 H' :=
  have e := Ev.stay s r.pot hp
  ⟨r.rows.ev hD (Fr.stay s r.pot hp) fun xs h => s _ _ r.nL h, tabs_keep r.tb (UL.Stay.keep s r.pot), hp, r.ev.trans e, r.nL, r.nw, r.gf.trans (StT.stay s)⟩
theorem RS.mono {X : Cx} {k n : Nat} {S S' : L2.St → Prop} {D : Dd} {L p : Addr} {T : List (Addr × Str)} {G H0 H : Hp} (r : RS X k n S D L T p G H0 H) (e : ∀ σ, S' σ → S σ) : RS X k n S' D L T p G H0 H := ⟨r.rows.mono e, r.tb, r.pot, r.ev, r.nL, r.nw, r.gf⟩
theorem all_bl : ∀ {n : Nat} {ys : List V}, ys.length = n → (∀ (i : Nat) (y : V), ys[i]? = some y → y = V.bl true) → ys = (List.replicate n true).map V.bl
  | 0, [], _, _ => rfl
  | n + 1, y :: ys, hl, h => by
    have e := h 0 y rfl
    have r := all_bl (n := n) (ys := ys) (by simpa using hl) fun i z hz => h (i + 1) z (by simpa using hz)
    rw [List.replicate_succ, List.map_cons, ← r, e]
theorem pi_or {X : Cx} {tg iter : Expr} {w1 w2 : TI} (h1 : PI X tg iter w1) (h2 : PI X tg iter w2) : PI X tg iter (fun σ H R => w1 σ H R ∨ w2 σ H R) :=
  ⟨fun pins s σ H R I h => h.elim (fun z => h1.run pins s σ H R I z) fun z => h2.run pins s σ H R I z⟩
theorem pe_nD0E {X : Cx} {k j : Nat} {x : Str} {C : Addr} {sp : Sp} {dvs : List V} {p pos : Pos} {E : XK} (c : MakDE X.prog X.w X.K X.mg X.base k x C dvs sp) (px : Passes (L2.CX X.prog X.w) X E) (hr : Room j X.A) (hk : k + 1 ≤ j) (hg : Gl X x) (h1 : (x == ("__debug__" : Str)) = false := by decide) :
    PE X (.Call (.Name x p) [] [] pos) (tMake C sp dvs E tNil) := by
  obtain ⟨f, fd, ps, ds, F, M, g, b, v⟩ := c
  exact pe_make0 M F (hr.mono hk) hg g b v px h1
end UL
set_option Elab.async false
set_option linter.all false
set_option maxRecDepth 100000
set_option maxHeartbeats 4000000

local macro_rules | `(tactic| walk_at "look") => `(tactic| first
  | assumption
  | exact L2.upd_same
  | (with_reducible apply UL.new_look (by assumption)
     walk_at "look")
  | (with_reducible apply UL.Same.look (by assumption)
     walk_at "look")
  | (with_reducible apply UL.Stay.lookT (by assumption) (by walk_at "pot")
     walk_at "look")
  | (with_reducible apply UL.Stay.lookI (by assumption) (by walk_at "pot")
     walk_at "look")
  | (with_reducible apply UL.Stay.lookN (by assumption)
     · walk_at "ne"
     walk_at "look")
  | (with_reducible apply UL.over_look
     · walk_at "ne"
     walk_at "look")
  | (with_reducible apply UL.over_look2
     · walk_at "look"
     · walk_at "look"
     · intro z_; cases z_)
  | fail)
local macro_rules | `(tactic| walk_at "ne") => `(tactic| first
  | assumption
  | (refine Ne.symm ?_; assumption)
  | exact UL.ne_pot (by assumption) (by walk_at "pot")
  | exact Ne.symm (UL.ne_pot (by assumption) (by walk_at "pot"))
  | exact UL.ne_new (by assumption) (by walk_at "look")
  | exact Ne.symm (UL.ne_new (by assumption) (by walk_at "look"))
  | fail)
local macro_rules | `(tactic| walk_at "pot") => `(tactic| first
  | assumption
  | (with_reducible refine UL.Pot.same (H := _) ?_ (UL.same_new (by assumption)); walk_at "pot")
  | (with_reducible refine UL.Pot.same (H := _) ?_ (by assumption); walk_at "pot")
  | fail)
local macro_rules | `(tactic| walk_at "same") => `(tactic| first
  | assumption
  | exact L2.Same.refl _
  | exact UL.same_new (by assumption)
  | (with_reducible refine L2.Same.trans ?_ (UL.same_new (by assumption)); walk_at "same")
  | (with_reducible refine L2.Same.trans ?_ (by assumption); walk_at "same")
  | fail)
local macro_rules | `(tactic| walk_at "stay") => `(tactic| first
  | assumption
  | exact UL.Stay.refl _ _
  | exact UL.stay_upd
  | exact UL.Same.stay (by walk_at "same") _
  | (with_reducible refine UL.Stay.trans ?_ (UL.Same.stay (UL.same_new (by assumption)) _); walk_at "stay")
  | (with_reducible refine UL.Stay.trans ?_ (UL.Same.stay (by assumption) _); walk_at "stay")
  | (with_reducible refine UL.Stay.trans ?_ (by assumption); walk_at "stay")
  | (with_reducible refine UL.Stay.trans ?_ UL.stay_upd; walk_at "stay")
  | fail)
local macro_rules | `(tactic| walk_at "side") => `(tactic| first
  | ((with_reducible show (_ : Int) < _); omega)
  | assumption
  | rfl
  | ((with_reducible show _ ≠ _); walk_at "ne")
  | ((with_reducible show ∃ _, _ = _); exact ⟨_, rfl⟩)
  | ((with_reducible show L2.SqL _ _ _ _); exact L2.SqL.of (by walk_at "look"))
  | ((with_reducible show L2.SqT _ _ _ _); exact L2.SqT.of (by walk_at "look"))
  | ((with_reducible show _ = some _); walk_at "look")
  | ((with_reducible show L2.atI _ _ = _); first | exact L2.atI_nat rfl | exact L2.atI_nat (j := 0) rfl | exact L2.atI_nat (j := 1) rfl | exact L2.atI_nat (j := 2) rfl | exact L2.atI_nat (j := 3) rfl | exact L2.atI_nat (j := 4) rfl | fail)
  | ((with_reducible show UL.Pot _ _); walk_at "pot")
  | ((with_reducible show L2.Same _ _); walk_at "same")
  | ((with_reducible show UL.Stay _ _ _); walk_at "stay")
  | ((with_reducible show L2.CMul _ _); unfold L2.CMul; omega)
  | ((with_reducible show L2.CDiv _ _); unfold L2.CDiv; omega)
  | ((with_reducible show _ < 1000); exact of_decide_eq_true rfl)
  | ((with_reducible show _ ≤ PySem.sizeLine); refine UL.line_ge ?_; first | (simp; done) | (simp; omega) | fail)
  | ((with_reducible show _ < PySem.sizeLine); refine UL.line_gt ?_; first | (simp; done) | (simp; omega) | fail)
  | ((with_reducible show _ < List.length _); first | (simp; done) | (simp; omega) | fail)
  | ((with_reducible show List.length _ < _); first | (simp; done) | (simp; omega) | fail)
  | ((with_reducible show List.all _ _ = true); first | exact UL.flat_strs _ | exact UL.flat_ints _ | (simp [L2.flatV]; done) | fail)
  | (intro z_; cases z_; done)
  | walk_at "txt"
  | ((with_reducible show L2.tyV _ _ _ _); apply UL.ty_lst; walk_at "look")
  | exact L2.ClsV.own _
  | exact L2.ClsV.ty _
  | ((with_reducible show L2.TyX _ _ _ _); first | exact L2.TyX.base (L2.TyOf.int _) | exact L2.TyX.base (L2.TyOf.str _))
  | ((with_reducible show PySem.W.kitOne _ _ _ = _); first | exact UL.kit_own | exact L2.kit_ty (by decide +kernel) | fail)
  | omega
  | decide
  | ((with_reducible show _ ∨ _); first | exact Or.inl (by walk_at "side") | exact Or.inr (by walk_at "side"))
  | ((with_reducible show _ ∧ _); exact And.intro (by walk_at "side") (by walk_at "side"))
  | fail)
local macro_rules | `(tactic| walk_at "st4") => `(tactic| first
  | (apply And.intro; · walk_at "side"
     walk_at "st3")
  | fail)
local macro_rules | `(tactic| walk_at "st3") => `(tactic| first
  | (apply And.intro; · walk_at "side"
     walk_at "st3")
  | (apply Or.inl; walk_at "st4")
  | (apply Or.inr; walk_at "st4")
  | skip)
local macro_rules | `(tactic| walk_at "st2") => `(tactic| first
  | (apply Exists.intro; walk_at "st2")
  | (apply And.intro; · walk_at "side"
     walk_at "st3")
  | fail)
local macro_rules | `(tactic| walk_at "cond") => `(tactic| first
  | rfl
  | assumption
  | (rw [Bool.not_eq_false']; assumption)
  | (rw [Bool.not_eq_true']; assumption)
  | (simp only [decide_eq_false_iff_not, decide_eq_true_iff, L2.V.int.injEq, Bool.not_eq_false', Bool.not_eq_true']; omega)
  | (simp; done)
  | (simp; omega)
  | (simp [*]; done)
  | (simp [*]; omega)
  | fail)
local macro_rules | `(tactic| walk_at "st") => `(tactic| first
  | (apply Exists.intro; walk_at "st2"; all_goals (change (_ : Prop)))
  | (refine L2.iteT ?_)
  | (refine L2.iteF ?_)
  | (apply And.intro; · walk_at "side"
     walk_at "st3"; all_goals (change (_ : Prop)))
  | (intro _ _; change (_ : Prop))
  | (intro _; change (_ : Prop))
  | (refine UL.iteFo' ?hc_ ?_; · walk_at "cond")
  | (refine UL.iteTo' ?hc_ ?_; · walk_at "cond")
  | (apply Or.inl; walk_at "st")
  | (apply Or.inr; walk_at "st")
  | fail)
local macro_rules | `(tactic| walk_at "go") => `(tactic| repeat walk_at "st")
local macro_rules | `(tactic| walk_at "unk") => `(tactic| first
  | (simp only [UL.blk_K, UL.nox_K, UL.cxOf_K]; done)
  | (simp only [UL.blk_K, UL.nox_K, UL.cxOf_K]; rfl)
  | rfl
  | fail)
local macro_rules | `(tactic| walk_at "side") => `(tactic| ((with_reducible show _ ≤ PySem.sizeLine); refine UL.line_ge ?_; omega))
local macro_rules | `(tactic| walk_at "side") => `(tactic| ((with_reducible show _ < PySem.sizeLine); refine UL.line_gt ?_; omega))
local macro_rules | `(tactic| walk_at "side") => `(tactic| first
  | ((with_reducible show L2.SqT _ _ _ _); exact UL.SqT.frz (by walk_at "look"))
  | ((with_reducible show UL.TupO _); assumption)
  | fail)
local macro_rules | `(tactic| walk_at "side") => `(tactic| ((with_reducible show L2.CPow _ _); exact ⟨by decide, by decide, by decide⟩))
local macro_rules | `(tactic| walk_at "vd") => `(tactic| first
  | (with_reducible assumption)
  | exact UL.Vd.non
  | exact UL.Vd.bl _
  | exact UL.Vd.int _
  | exact UL.Vd.str _
  | (apply UL.vd_ref
     · walk_at "look"
     · first | exact UL.ShD.lst _ | exact UL.ShD.tup _ | exact UL.ShD.dct _ | fail)
  | fail)
local macro_rules | `(tactic| walk_at "menu") => `(tactic| first
  | exact UL.Nm.nil
  | (apply UL.Nm.cons
     · walk_at "vd"
     · walk_at "mv"
     walk_at "menu")
  | fail)

namespace K14
open PySem L2 UL ClX
def top (i : Nat) : Stmt := PySem.Challenge.pw_unlikecalls_k14_whole_plain_works.main.body.getD i (.Pass ⟨0, 0, 0, 0⟩)
structure Bi (mg : Str → Option Value) : Prop where
  ArithmeticError : mg "ArithmeticError" = none
  ValueError : mg "ValueError" = none
  abs : mg "abs" = none
  bool : mg "bool" = none
  divmod : mg "divmod" = none
  enumerate : mg "enumerate" = none
  int : mg "int" = none
  isinstance : mg "isinstance" = none
  len : mg "len" = none
  list : mg "list" = none
  max : mg "max" = none
  min : mg "min" = none
  property : mg "property" = none
  range : mg "range" = none
  repr : mg "repr" = none
  staticmethod : mg "staticmethod" = none
  str : mg "str" = none
  tuple : mg "tuple" = none
structure Ad where
  c_CallError : Addr
  c_InvalidNumber : Addr
  c_InvalidFill : Addr
  c_InvalidWork : Addr
  c_InvalidBits : Addr
  c_LimitError : Addr
  c_TooMany : Addr
  c_Fill : Addr
  c_Work : Addr
structure Txt (K : PySem.W.Frag) (mg : Str → Option Value) (ad : Ad) : Prop where
  bi : Bi mg
  v_FREE : ∃ u, mg "FREE" = some u ∧ RelV (.str "free") u
  v_ZEROS : ∃ u, mg "ZEROS" = some u ∧ RelV (.str "zeros") u
  v_SIGN : ∃ u, mg "SIGN" = some u ∧ RelV (.str "sign") u
  v_LEAST_EXTENT : ∃ u, mg "LEAST_EXTENT" = some u ∧ RelV (.int 3) u
  v_LEAST_WIDTH : ∃ u, mg "LEAST_WIDTH" = some u ∧ RelV (.int 2) u
  v_MOST_BITS : ∃ u, mg "MOST_BITS" = some u ∧ RelV (.int 128) u
  v_MOST_FILLS : ∃ u, mg "MOST_FILLS" = some u ∧ RelV (.int 126) u
  g_Fill : mg "Fill" = some (.ref ad.c_Fill)
  i_Fill : CIsi K ad.c_Fill
  ki_Fill : ∀ T ∈ (["str", "int", "bool"] : List String), PySem.W.kitOne K (.ref ad.c_Fill) (.type T) = some false
  no_Fill : NoOp K ad.c_Fill "add"
  ne_Fill : PySem.W.findIn K (.ref ad.c_Fill) "__ne__" = some (some (.builtin "object.__ne__"))
  n_Fill_word : NoAttr K ad.c_Fill "_word"
  n_Fill_extent : NoAttr K ad.c_Fill "_extent"
  k_Fill : ∀ T ∈ (["NoneType", "tuple", "str", "int", "list", "bool", "dict"] : List String), PySem.W.kitOne K (.type T) (.ref ad.c_Fill) = some false ∧ PySem.W.notFirst K ad.c_Fill (.type T) = true
  g_Work : mg "Work" = some (.ref ad.c_Work)
  i_Work : CIsi K ad.c_Work
  sf_Work : PySem.W.selfFirst K ad.c_Work = true
  os_Work : OwnT K ad.c_Work "str" "add"
  ki_Work : ∀ T ∈ (["str", "int", "bool"] : List String), PySem.W.kitOne K (.ref ad.c_Work) (.type T) = some false
  kl_Work : ∀ T ∈ (["list", "tuple"] : List String), PySem.W.kitOne K (.ref ad.c_Work) (.type T) = some false
  oa_Work : ∀ T ∈ UL.T7, OwnT K ad.c_Work T "add"
  ne_Work : PySem.W.findIn K (.ref ad.c_Work) "__ne__" = some (some (.builtin "object.__ne__"))
  n_Work_fills : NoAttr K ad.c_Work "_fills"
  k_Work : ∀ T ∈ (["NoneType", "tuple", "str", "int", "list", "bool", "dict"] : List String), PySem.W.kitOne K (.type T) (.ref ad.c_Work) = some false ∧ PySem.W.notFirst K ad.c_Work (.type T) = true
  ks_Work_Fill : PySem.W.kitOne K (.ref ad.c_Work) (.ref ad.c_Fill) = some false
  nf_Work_Fill : PySem.W.notFirst K ad.c_Fill (.ref ad.c_Work) = true
  ks_Fill_Work : PySem.W.kitOne K (.ref ad.c_Fill) (.ref ad.c_Work) = some false
  nf_Fill_Work : PySem.W.notFirst K ad.c_Work (.ref ad.c_Fill) = true
  g_CallError : mg "CallError" = some (.ref ad.c_CallError)
  x_CallError : ExB K ad.c_CallError "ValueError" "ValueError.__new__" "ValueError.__init__" [.type "ValueError", .type "Exception", .type "BaseException", .type "object"]
  xf_CallError : XfC K ad.c_CallError
  xm_CallError_CallError : PySem.W.exmOne K (.ref ad.c_CallError) (.ref ad.c_CallError) = some true
  xm_CallError_LimitError : PySem.W.exmOne K (.ref ad.c_CallError) (.ref ad.c_LimitError) = some false
  xm_CallError_InvalidWork : PySem.W.exmOne K (.ref ad.c_CallError) (.ref ad.c_InvalidWork) = some false
  xm_CallError_TooMany : PySem.W.exmOne K (.ref ad.c_CallError) (.ref ad.c_TooMany) = some false
  xb_CallError : PySem.W.kitCls K (.ref ad.c_CallError) (.type "ValueError") = some true
  g_LimitError : mg "LimitError" = some (.ref ad.c_LimitError)
  x_LimitError : ExB K ad.c_LimitError "ArithmeticError" "ArithmeticError.__new__" "ArithmeticError.__init__" [.type "ArithmeticError", .type "Exception", .type "BaseException", .type "object"]
  xf_LimitError : XfC K ad.c_LimitError
  xm_LimitError_CallError : PySem.W.exmOne K (.ref ad.c_LimitError) (.ref ad.c_CallError) = some false
  xm_LimitError_LimitError : PySem.W.exmOne K (.ref ad.c_LimitError) (.ref ad.c_LimitError) = some true
  xm_LimitError_InvalidWork : PySem.W.exmOne K (.ref ad.c_LimitError) (.ref ad.c_InvalidWork) = some false
  xm_LimitError_TooMany : PySem.W.exmOne K (.ref ad.c_LimitError) (.ref ad.c_TooMany) = some false
  xb_LimitError : PySem.W.kitCls K (.ref ad.c_LimitError) (.type "ArithmeticError") = some true
  g_InvalidWork : mg "InvalidWork" = some (.ref ad.c_InvalidWork)
  x_InvalidWork : ExB K ad.c_InvalidWork "ValueError" "ValueError.__new__" "ValueError.__init__" [.type "ValueError", .type "Exception", .type "BaseException", .type "object"]
  xf_InvalidWork : XfC K ad.c_InvalidWork
  xn_InvalidWork_position : PySem.W.findIn K (.ref ad.c_InvalidWork) "position" = some none
  xm_InvalidWork_CallError : PySem.W.exmOne K (.ref ad.c_InvalidWork) (.ref ad.c_CallError) = some true
  xm_InvalidWork_LimitError : PySem.W.exmOne K (.ref ad.c_InvalidWork) (.ref ad.c_LimitError) = some false
  xm_InvalidWork_InvalidWork : PySem.W.exmOne K (.ref ad.c_InvalidWork) (.ref ad.c_InvalidWork) = some true
  xm_InvalidWork_TooMany : PySem.W.exmOne K (.ref ad.c_InvalidWork) (.ref ad.c_TooMany) = some false
  xs_InvalidWork_CallError : PySem.W.kitCls K (.ref ad.c_InvalidWork) (.ref ad.c_CallError) = some true ∧ ((Value.ref ad.c_InvalidWork == Value.ref ad.c_CallError) = false)
  xb_InvalidWork : PySem.W.kitCls K (.ref ad.c_InvalidWork) (.type "ValueError") = some true
  g_TooMany : mg "TooMany" = some (.ref ad.c_TooMany)
  x_TooMany : ExB K ad.c_TooMany "ArithmeticError" "ArithmeticError.__new__" "ArithmeticError.__init__" [.type "ArithmeticError", .type "Exception", .type "BaseException", .type "object"]
  xf_TooMany : XfC K ad.c_TooMany
  xn_TooMany_what : PySem.W.findIn K (.ref ad.c_TooMany) "what" = some none
  xn_TooMany_limit : PySem.W.findIn K (.ref ad.c_TooMany) "limit" = some none
  xm_TooMany_CallError : PySem.W.exmOne K (.ref ad.c_TooMany) (.ref ad.c_CallError) = some false
  xm_TooMany_LimitError : PySem.W.exmOne K (.ref ad.c_TooMany) (.ref ad.c_LimitError) = some true
  xm_TooMany_InvalidWork : PySem.W.exmOne K (.ref ad.c_TooMany) (.ref ad.c_InvalidWork) = some false
  xm_TooMany_TooMany : PySem.W.exmOne K (.ref ad.c_TooMany) (.ref ad.c_TooMany) = some true
  xs_TooMany_LimitError : PySem.W.kitCls K (.ref ad.c_TooMany) (.ref ad.c_LimitError) = some true ∧ ((Value.ref ad.c_TooMany == Value.ref ad.c_LimitError) = false)
  xb_TooMany : PySem.W.kitCls K (.ref ad.c_TooMany) (.type "ArithmeticError") = some true
local macro_rules | `(tactic| walk_at "txt") => `(tactic| first
  | ((with_reducible show PySem.W.kitOne _ (.ref _) (.ref _) = _); first | exact Txt.ks_Work_Fill (by assumption) | exact Txt.ks_Fill_Work (by assumption))
  | ((with_reducible show PySem.W.notFirst _ _ (.ref _) = _); first | exact Txt.nf_Work_Fill (by assumption) | exact Txt.nf_Fill_Work (by assumption))
  | ((with_reducible show L2.Cls _ _); first | exact UL.CIsi.cl (Txt.i_Fill (by assumption)) | exact UL.CIsi.cl (Txt.i_Work (by assumption)))
  | ((with_reducible show UL.CIsi _ _); first | exact Txt.i_Fill (by assumption) | exact Txt.i_Work (by assumption))
  | ((with_reducible show L2.NoAttr _ _ _); first | exact Txt.n_Fill_word (by assumption) | exact Txt.n_Fill_extent (by assumption) | exact Txt.n_Work_fills (by assumption))
  | ((with_reducible show L2.TyX _ _ _ _); first | exact UL.CIsi.ty (Txt.i_Fill (by assumption)) (by walk_at "look") | exact UL.CIsi.ty (Txt.i_Work (by assumption)) (by walk_at "look"))
  | ((with_reducible show PySem.W.kitOne _ (.type _) (.ref _) = _); first | exact ((Txt.k_Fill (by assumption)) _ (by simp)).1 | exact ((Txt.k_Work (by assumption)) _ (by simp)).1)
  | ((with_reducible show _ = PySem.Value.ref _ ∨ _); first | exact .inl rfl | exact .inr ⟨_, rfl, Txt.no_Fill (by assumption)⟩)
  | fail)
theorem same_over {H H1 : Hp} {L : Addr} {o : HO} (s : L2.Same H H1) (hL : H L = none) : L2.Same H (upd H1 L o) := fun b u e => by
  rw [upd_ne (ne_of_none e hL)]
  exact s b u e
def inS (xs : List V) : PyData → Bool
  | .str x => inV (.str x) xs
  | _ => false
def inD (xs : List V) : PyData → Bool
  | .int i => inV (.int i) xs
  | _ => false
def cntD : PyData → Bool
  | .int i => decide (0 ≤ i)
  | _ => false
def betD (lo hi : Int) : PyData → Bool
  | .int i => decide (lo ≤ i) && decide (i ≤ hi)
  | _ => false
/-- an instance of an own class: it is neither a text nor a number -/
def Inst (K : PySem.W.Frag) (H : Hp) (v : V) : Prop := ∃ C, TyX K H v (.ref C) ∧ ∀ T ∈ (["str", "int", "bool"] : List String), PySem.W.kitOne K (.ref C) (.type T) = some false
/-- a value of any kind -/
def Any (K : PySem.W.Frag) (H : Hp) (v : V) (d : PyData) : Prop := Vd K H v d ∨ (Inst K H v ∧ d = .none)
theorem Any.str {K : PySem.W.Frag} {H : Hp} {v : V} {d : PyData} (h : Any K H v d) : ∃ t, TyX K H v t ∧ PySem.W.kitOne K t (.type "str") = some (isS d) := by
  rcases h with h | ⟨⟨C, ty, q⟩, rfl⟩
  · exact ⟨_, h.ty, kit_str d⟩
  · exact ⟨_, ty, q "str" (by simp)⟩
theorem Any.int {K : PySem.W.Frag} {H : Hp} {v : V} {d : PyData} (h : Any K H v d) : ∃ t, TyX K H v t ∧ PySem.W.kitOne K t (.type "int") = some (isI d || isB d) ∧ PySem.W.kitOne K t (.type "bool") = some (isB d) := by
  rcases h with h | ⟨⟨C, ty, q⟩, rfl⟩
  · exact ⟨_, h.ty, kit_int d, kit_bool d⟩
  · exact ⟨_, ty, q "int" (by simp), q "bool" (by simp)⟩
theorem Any.isI {K : PySem.W.Frag} {H : Hp} {v : V} {d : PyData} (h : Any K H v d) (e : isI d = true) : ∃ i, v = .int i ∧ d = .int i := by
  rcases h with h | ⟨_, rfl⟩
  · exact isI_at h e
  · cases e
theorem Any.isS {K : PySem.W.Frag} {H : Hp} {v : V} {d : PyData} (h : Any K H v d) (e : isS d = true) : ∃ x, v = .str x ∧ d = .str x := by
  rcases h with h | ⟨_, rfl⟩
  · exact isS_at h e
  · cases e
section
variable {P : Program} {w : World} {K : PySem.W.Frag} {mg : Str → Option Value} {base : Heap} {ad : Ad}
def spIsInt (K : PySem.W.Frag) : Sp := fun vs H Q _ => ∃ (v : V) (d : PyData), vs = [v] ∧ Any K H v d ∧ Q (.bl (isI d)) H
def spCount (K : PySem.W.Frag) : Sp := fun vs H Q _ => ∃ (v : V) (d : PyData), vs = [v] ∧ Any K H v d ∧ Q (.bl (cntD d)) H
def spBetw (K : PySem.W.Frag) : Sp := fun vs H Q _ => ∃ (v : V) (d : PyData) (lo hi : Int), vs = [v, .int lo, .int hi] ∧ Any K H v d ∧ Q (.bl (betD lo hi d)) H
def spOneOf (K : PySem.W.Frag) : Sp := fun vs H Q _ => ∃ (v : V) (d : PyData) (a : Addr) (xs : List V), vs = [v, .ref a] ∧ Any K H v d ∧ SqT K H a xs ∧ xs.all flatV = true ∧ Q (.bl (inD xs d)) H
def spWordOf (K : PySem.W.Frag) : Sp := fun vs H Q _ => ∃ (v : V) (d : PyData) (a : Addr) (xs : List V), vs = [v, .ref a] ∧ Any K H v d ∧ SqT K H a xs ∧ xs.all flatV = true ∧ Q (.bl (inS xs d)) H
abbrev st_is_between : Stmt := top 2
theorem sc_is_between : FnScope ["value", "least", "most"] ["value", "least", "most"] (defScope st_is_between) := ⟨rfl, rfl, rfl, by decide +kernel, rfl, by decide +kernel, by decide +kernel⟩
theorem ok_is_between {f : Addr} {fd : FuncData} (F : Fun K "is_between" "is_between" st_is_between f fd) (T : Txt K mg ad)  :
    FnOk P w K mg base CX0 1 f fd ["value", "least", "most"] (spBetw K) := by
  refine F.ok sc_is_between (fun vs H Q E h => ?_) (fun cdv A outer s H vs Q E hr h => ?_)
  · obtain (⟨v, d, lo, hi, rfl, hv, k⟩) := h
    rfl
  · obtain (⟨v, d, lo, hi, rfl, hv, k⟩) := h
    refine ⟨_, pss_one (ps_ret (pe_and (pe_callB call_isi (by rfl) T.bi.isinstance (by decide +kernel) (pa_cons (pv 0) (pa_cons (pe_bltn (v := .ty "int") (by rfl) T.bi.int (by decide +kernel) rfl) pa_nil))) (pe_and (pe_not (pe_callB call_isi (by rfl) T.bi.isinstance (by decide +kernel) (pa_cons (pv 0) (pa_cons (pe_bltn (v := .ty "bool") (by rfl) T.bi.bool (by decide +kernel) rfl) pa_nil)))) (pe_one (pe_chain op_le op_le (pv 1) (pv 0) (pv 2)))))), ?_⟩
    obtain ⟨tt, t, e1, e2⟩ := hv.int
    refine ⟨_, rfl, _, _, _, _, _, rfl, .ty "int", t, e1, _, rfl, ?_⟩
    cases h : (isI d || isB d) with
    | false =>
      have e : betD lo hi d = false := by cases d <;> simp [isI, isB, betD] at h ⊢
      rw [e] at k
      exact iteF k
    | true =>
      refine iteT ⟨_, rfl, _, _, _, _, _, rfl, .ty "bool", t, e2, _, rfl, _, rfl, ?_⟩
      cases hb : isB d with
      | true =>
        have e : betD lo hi d = false := by cases d <;> simp [isB, betD] at hb ⊢
        rw [e] at k
        exact iteF k
      | false =>
        have hi' : isI d = true := by cases d <;> simp [isI, isB] at h hb ⊢
        obtain ⟨i, rfl, rfl⟩ := hv.isI hi'
        have k : Q (.bl (decide (lo ≤ i) && decide (i ≤ hi))) H := k
        refine iteT ⟨_, rfl, _, rfl, _, _, rfl, rfl, _, rfl, ?_⟩
        by_cases c : lo ≤ i
        · rw [decide_eq_true c] at k ⊢
          exact iteT ⟨_, rfl, _, _, rfl, rfl, k⟩
        · rw [decide_eq_false c] at k ⊢
          exact iteF k
abbrev st_is_word_of : Stmt := top 3
theorem sc_is_word_of : FnScope ["value", "words"] ["value", "words"] (defScope st_is_word_of) := ⟨rfl, rfl, rfl, by decide +kernel, rfl, by decide +kernel, by decide +kernel⟩
theorem ok_is_word_of {f : Addr} {fd : FuncData} (F : Fun K "is_word_of" "is_word_of" st_is_word_of f fd) (T : Txt K mg ad)  :
    FnOk P w K mg base CX0 1 f fd ["value", "words"] (spWordOf K) := by
  refine F.ok sc_is_word_of (fun vs H Q E h => ?_) (fun cdv A outer s H vs Q E hr h => ?_)
  · obtain (⟨v, d, a, xs, rfl, hv, hS, hf, k⟩) := h
    rfl
  · obtain (⟨v, d, a, xs, rfl, hv, hS, hf, k⟩) := h
    refine ⟨_, pss_one (ps_ret (pe_and (pe_callB call_isi (by rfl) T.bi.isinstance (by decide +kernel) (pa_cons (pv 0) (pa_cons (pe_bltn (v := .ty "str") (by rfl) T.bi.str (by decide +kernel) rfl) pa_nil))) (pe_one (pe_cmpR op_in_seq (pv 0) (pv 1) (by rfl))))), ?_⟩
    obtain ⟨tt, t, e1⟩ := hv.str
    refine ⟨_, rfl, _, _, _, _, _, rfl, .ty "str", t, e1, _, rfl, ?_⟩
    cases h : isS d with
    | false =>
      have e : inS xs d = false := by cases d <;> simp [isS, inS] at h ⊢
      rw [e] at k
      exact iteF k
    | true =>
      obtain ⟨x, rfl, rfl⟩ := hv.isS h
      exact iteT ⟨_, rfl, _, rfl, a, xs, rfl, .inr hS, rfl, hf, k⟩
end
end K14
set_option Elab.async false
set_option linter.all false
/-! k14: which fill is the last one to set each bit; the plain form by it. No heap. -/
namespace K14M
abbrev RT := Bool × Int
def okR (t : RT) : Prop := 3 ≤ t.2 ∧ t.2 ≤ 128
/-- one turn of plain: ks is kept, its last one sets the most bits -/
def plS (ks : List RT) (t : RT) : List RT := match ks.getLast? with
  | none => ks ++ [t]
  | some k => if t.2 ≤ k.2 then ks else if t.1 = k.1 then ks.dropLast ++ [t] else ks ++ [t]
def plainR (ts : List RT) : List RT := (ts.reverse.foldl plS []).reverse
/-- the word of the last one that sets bit b -/
def lastW : List RT → Int → Option Bool
  | [], _ => none
  | t :: ts, b => match lastW ts b with
    | some s => some s
    | none => if b < t.2 then some t.1 else none
/-- the first one that reaches beyond b -/
def rp : List RT → Int → Option Bool
  | [], _ => none
  | k :: ks, b => if b < k.2 then some k.1 else rp ks b
/-- from lo on the ends grow, neighbours differ, words begin unlike p -/
def Can (lo : Int) (p : Option Bool) : List RT → Prop
  | [] => True
  | k :: ks => lo < k.2 ∧ p ≠ some k.1 ∧ Can k.2 (some k.1) ks
theorem rp_low : ∀ {ks : List RT} {lo : Int} {p : Option Bool} {b : Int}, Can lo p ks → ks ≠ [] → b ≤ lo → ∃ k r, ks = k :: r ∧ rp ks b = some k.1
  | k :: r, lo, p, b, h, _, hb => ⟨k, r, rfl, by
    unfold rp
    rw [if_pos (by have := h.1; omega)]⟩
/-- a canonical list is told by what it sets -/
theorem can_ext : ∀ {ks ls : List RT} {lo : Int} {p : Option Bool}, Can lo p ks → Can lo p ls → (∀ k ∈ ks, k.2 ≤ 128) → (∀ k ∈ ls, k.2 ≤ 128) → (∀ b, lo ≤ b → b < 128 → rp ks b = rp ls b) → ks = ls
  | [], [], _, _, _, _, _, _, _ => rfl
  | [], l :: ls, lo, p, _, h2, _, b2, e => by
    have z := e lo (Int.le_refl _) (by have := h2.1; have := b2 l List.mem_cons_self; omega)
    unfold rp at z
    rw [if_pos h2.1] at z
    cases z
  | k :: ks, [], lo, p, h1, _, b1, _, e => by
    have z := e lo (Int.le_refl _) (by have := h1.1; have := b1 k List.mem_cons_self; omega)
    unfold rp at z
    rw [if_pos h1.1] at z
    cases z
  | k :: ks, l :: ls, lo, p, h1, h2, b1, b2, e => by
    have lk := b1 k List.mem_cons_self
    have ll := b2 l List.mem_cons_self
    have w : k.1 = l.1 := by
      have z := e lo (Int.le_refl _) (by have := h1.1; omega)
      simp only [rp] at z
      rw [if_pos h1.1, if_pos h2.1] at z
      exact Option.some.inj z
    have q : k.2 = l.2 := by
      rcases Int.lt_trichotomy k.2 l.2 with c | c | c
      · exfalso
        have z := e k.2 (by have := h1.1; omega) (by omega)
        simp only [rp] at z
        rw [if_neg (by omega), if_pos c] at z
        cases hk : ks with
        | nil => rw [hk] at z; cases z
        | cons k2 r =>
          have h3 := h1.2.2
          rw [hk] at h3 z
          unfold rp at z
          rw [if_pos h3.1, ← w] at z
          exact h3.2.1 z.symm
      · exact c
      · exfalso
        have z := e l.2 (by have := h2.1; omega) (by omega)
        simp only [rp] at z
        rw [if_pos (by omega), if_neg (by omega)] at z
        cases hl : ls with
        | nil => rw [hl] at z; cases z
        | cons l2 r =>
          have h3 := h2.2.2
          rw [hl] at h3 z
          unfold rp at z
          rw [if_pos h3.1, w] at z
          exact h3.2.1 z
    have kl : k = l := Prod.ext w q
    subst kl
    have r := can_ext h1.2.2 h2.2.2 (fun x hx => b1 x (List.mem_cons_of_mem _ hx)) (fun x hx => b2 x (List.mem_cons_of_mem _ hx)) fun b hb hb2 => by
      have z := e b (by have := h1.1; omega) hb2
      simp only [rp] at z
      rw [if_neg (by omega), if_neg (by omega)] at z
      exact z
    rw [r]
theorem rp_app : ∀ (ks ls : List RT) (b : Int), rp (ks ++ ls) b = match rp ks b with
    | some s => some s
    | none => rp ls b
  | [], _, _ => rfl
  | k :: ks, ls, b => by
    have ih := rp_app ks ls b
    show (if b < k.2 then some k.1 else rp (ks ++ ls) b) = _
    by_cases c : b < k.2
    · rw [if_pos c]
      simp only [rp]
      rw [if_pos c]
    · rw [if_neg c, ih]
      simp only [rp]
      rw [if_neg c]
theorem plS_snoc {ks : List RT} {k t : RT} : plS (ks ++ [k]) t = if t.2 ≤ k.2 then ks ++ [k] else if t.1 = k.1 then ks ++ [t] else ks ++ [k] ++ [t] := by
  unfold plS
  rw [List.getLast?_concat, List.dropLast_concat]
/-- the last one's end is beyond all others' -/
theorem can_last : ∀ {ks : List RT} {k : RT} {lo : Int} {p : Option Bool}, Can lo p (ks ++ [k]) → lo < k.2 ∧ ∀ x ∈ ks, x.2 < k.2
  | [], k, lo, p, h => ⟨h.1, fun _ hx => by cases hx⟩
  | a :: ks, k, lo, p, h => by
    obtain ⟨h1, h2⟩ := can_last (ks := ks) h.2.2
    have h0 : lo < a.2 := h.1
    refine ⟨by omega, fun x hx => ?_⟩
    rcases List.mem_cons.mp hx with rfl | hx
    · exact h1
    · exact h2 x hx
theorem can_put : ∀ {ks : List RT} {k t : RT} {lo : Int} {p : Option Bool}, Can lo p (ks ++ [k]) → k.2 ≤ t.2 → t.1 = k.1 → Can lo p (ks ++ [t])
  | [], k, t, lo, p, h, h1, h2 => ⟨by have : lo < k.2 := h.1; omega, by rw [h2]; exact h.2.1, trivial⟩
  | a :: ks, k, t, lo, p, h, h1, h2 => ⟨h.1, h.2.1, can_put h.2.2 h1 h2⟩
theorem can_snoc : ∀ {ks : List RT} {k t : RT} {lo : Int} {p : Option Bool}, Can lo p (ks ++ [k]) → k.2 < t.2 → t.1 ≠ k.1 → Can lo p (ks ++ [k] ++ [t])
  | [], k, t, lo, p, h, h1, h2 => ⟨h.1, h.2.1, h1, fun z => h2 (Option.some.inj z).symm, trivial⟩
  | a :: ks, k, t, lo, p, h, h1, h2 => ⟨h.1, h.2.1, can_snoc h.2.2 h1 h2⟩
theorem nil_snoc {α : Type} (l : List α) : l = [] ∨ ∃ a x, l = a ++ [x] := by
  rcases List.eq_nil_or_concat l with h | ⟨a, x, h⟩
  · exact .inl h
  · exact .inr ⟨a, x, by rw [h, List.concat_eq_append]⟩
theorem plS_can {ks : List RT} {t : RT} (h : Can 2 none ks) (ht : okR t) : Can 2 none (plS ks t) := by
  rcases nil_snoc ks with rfl | ⟨a, k, rfl⟩
  · exact ⟨by have := ht.1; show (2 : Int) < t.2; omega, (fun z => by cases z), trivial⟩
  · rw [plS_snoc]
    by_cases c : t.2 ≤ k.2
    · rw [if_pos c]; exact h
    · rw [if_neg c]
      by_cases d : t.1 = k.1
      · rw [if_pos d]; exact can_put h (by omega) d
      · rw [if_neg d]; exact can_snoc h (by omega) d
theorem rp_none : ∀ {ks : List RT} {b : Int}, (∀ x ∈ ks, x.2 ≤ b) → rp ks b = none
  | [], _, _ => rfl
  | k :: ks, b, h => by
    unfold rp
    rw [if_neg (by have := h k List.mem_cons_self; omega)]
    exact rp_none fun x hx => h x (List.mem_cons_of_mem _ hx)
theorem plS_rp {ks : List RT} {t : RT} (h : Can 2 none ks) (b : Int) : rp (plS ks t) b = match rp ks b with
    | some s => some s
    | none => if b < t.2 then some t.1 else none := by
  rcases nil_snoc ks with rfl | ⟨a, k, rfl⟩
  · rfl
  · obtain ⟨_, hl⟩ := can_last h
    rw [plS_snoc]
    by_cases c : t.2 ≤ k.2
    · rw [if_pos c]
      cases e : rp (a ++ [k]) b with
      | some s => rfl
      | none =>
        rw [rp_app] at e
        have : ¬ b < k.2 := fun z => by
          cases e2 : rp a b with
          | some s => rw [e2] at e; cases e
          | none =>
            rw [e2] at e
            simp only [rp] at e
            rw [if_pos z] at e
            cases e
        dsimp only
        rw [if_neg (by omega)]
    · rw [if_neg c]
      have key : rp (a ++ [k]) b = match rp a b with
          | some s => some s
          | none => if b < k.2 then some k.1 else none := by rw [rp_app]; rfl
      by_cases d : t.1 = k.1
      · rw [if_pos d, rp_app, key]
        cases e2 : rp a b with
        | some s => rfl
        | none =>
          dsimp only
          simp only [rp]
          by_cases z : b < k.2
          · rw [if_pos z, if_pos (by omega), d]
          · rw [if_neg z]
      · rw [if_neg d, rp_app, key]
        cases e2 : rp a b with
        | some s => rfl
        | none =>
          dsimp only
          by_cases z : b < k.2
          · rw [if_pos z]
          · rw [if_neg z]
            rfl
theorem plS_top {ks : List RT} {t : RT} (h : ∀ k ∈ ks, k.2 ≤ 128) (ht : okR t) : ∀ k ∈ plS ks t, k.2 ≤ 128 := by
  rcases nil_snoc ks with rfl | ⟨a, k, rfl⟩
  · intro x hx
    rw [List.mem_singleton.mp (show x ∈ [t] from hx)]
    exact ht.2
  · rw [plS_snoc]
    intro x hx
    by_cases c : t.2 ≤ k.2
    · rw [if_pos c] at hx; exact h x hx
    · rw [if_neg c] at hx
      by_cases d : t.1 = k.1
      · rw [if_pos d] at hx
        rcases List.mem_append.mp hx with hx | hx
        · exact h x (List.mem_append_left _ hx)
        · rw [List.mem_singleton.mp hx]; exact ht.2
      · rw [if_neg d] at hx
        rcases List.mem_append.mp hx with hx | hx
        · exact h x hx
        · rw [List.mem_singleton.mp hx]; exact ht.2
/-- what is kept: canonical, and it tells which is the last one -/
theorem kept_of : ∀ {ts : List RT}, (∀ t ∈ ts, okR t) → Can 2 none (ts.reverse.foldl plS []) ∧ (∀ k ∈ ts.reverse.foldl plS [], k.2 ≤ 128) ∧ ∀ b, rp (ts.reverse.foldl plS []) b = lastW ts b
  | [], _ => ⟨trivial, (fun _ h => by cases h), fun _ => rfl⟩
  | t :: ts, h => by
    obtain ⟨i1, i2, i3⟩ := kept_of (ts := ts) fun x hx => h x (List.mem_cons_of_mem _ hx)
    have ht := h t List.mem_cons_self
    rw [List.reverse_cons, List.foldl_append]
    refine ⟨plS_can i1 ht, plS_top i2 ht, fun b => ?_⟩
    show rp (plS _ t) b = _
    rw [plS_rp i1, i3]
    rfl
/-- two works have one plain form just if the last ones are the same for each bit -/
theorem plain_iff {ts us : List RT} (h1 : ∀ t ∈ ts, okR t) (h2 : ∀ t ∈ us, okR t) : plainR ts = plainR us ↔ ∀ b, 2 ≤ b → b < 128 → lastW ts b = lastW us b := by
  obtain ⟨a1, a2, a3⟩ := kept_of h1
  obtain ⟨b1, b2, b3⟩ := kept_of h2
  unfold plainR
  constructor
  · intro e b _ _
    have e := List.reverse_inj.mp e
    rw [← a3, ← b3, e]
  · intro e
    rw [can_ext a1 b1 a2 b2 fun b x y => by rw [a3, b3]; exact e b x y]
theorem lastW_app : ∀ (ts us : List RT) (b : Int), lastW (ts ++ us) b = match lastW us b with
    | some s => some s
    | none => lastW ts b
  | [], us, b => by
    show lastW us b = _
    cases lastW us b <;> rfl
  | t :: ts, us, b => by
    have ih := lastW_app ts us b
    show (match lastW (ts ++ us) b with
      | some s => some s
      | none => if b < t.2 then some t.1 else none) = _
    rw [ih]
    cases lastW us b <;> rfl
theorem lastW_rev : ∀ (ks : List RT) (b : Int), lastW ks.reverse b = rp ks b
  | [], _ => rfl
  | k :: ks, b => by
    rw [List.reverse_cons, lastW_app, lastW_rev ks b]
    show (match (if b < k.2 then some k.1 else none) with
      | some s => some s
      | none => rp ks b) = if b < k.2 then some k.1 else rp ks b
    by_cases c : b < k.2
    · rw [if_pos c, if_pos c]
    · rw [if_neg c, if_neg c]
/-- beyond a bit that none sets none sets any -/
theorem lastW_up : ∀ {ts : List RT} {b c : Int}, lastW ts b = none → b ≤ c → lastW ts c = none
  | [], _, _, _, _ => rfl
  | t :: ts, b, c, h, hc => by
    simp only [lastW] at h ⊢
    cases e : lastW ts b with
    | some s => rw [e] at h; cases h
    | none =>
      rw [e] at h
      rw [lastW_up e hc]
      dsimp only at h ⊢
      by_cases d : b < t.2
      · rw [if_pos d] at h; cases h
      · rw [if_neg (by omega)]
theorem can_lo : ∀ {ks : List RT} {lo : Int} {p : Option Bool}, Can lo p ks → ∀ x ∈ ks, lo < x.2
  | k :: ks, lo, p, h, x, hx => by
    rcases List.mem_cons.mp hx with rfl | hx
    · exact h.1
    · have h1 := can_lo h.2.2 x hx
      have h2 := h.1
      omega
theorem plain_ok {ts : List RT} (h : ∀ t ∈ ts, okR t) : ∀ t ∈ plainR ts, okR t := by
  obtain ⟨a1, a2, _⟩ := kept_of h
  intro t ht
  have m := List.mem_reverse.mp ht
  exact ⟨by have := can_lo a1 t m; omega, a2 t m⟩
theorem plain_last {ts : List RT} (h : ∀ t ∈ ts, okR t) (b : Int) : lastW (plainR ts) b = lastW ts b := by
  obtain ⟨_, _, a3⟩ := kept_of h
  unfold plainR
  rw [lastW_rev, a3]
theorem plain_plain {ts : List RT} (h : ∀ t ∈ ts, okR t) : plainR (plainR ts) = plainR ts :=
  (plain_iff (plain_ok h) h).mpr fun b _ _ => plain_last h b
/-- the ends of the stretches of one word, from bit 128 - n on -/
def endsF (f : Int → Option Bool) : Nat → List RT
  | 0 => []
  | n + 1 => match f (127 - n) with
    | some w => if n = 0 ∨ f (128 - n) ≠ some w then (w, 128 - (n : Int)) :: endsF f n else endsF f n
    | none => endsF f n
theorem endsF_some {f : Int → Option Bool} {n : Nat} {w : Bool} (h : f (127 - n) = some w) : endsF f (n + 1) = if n = 0 ∨ f (128 - n) ≠ some w then (w, 128 - (n : Int)) :: endsF f n else endsF f n := by
  simp only [endsF]
  rw [h]
theorem endsF_no {f : Int → Option Bool} {n : Nat} (h : f (127 - n) = none) : endsF f (n + 1) = endsF f n := by
  simp only [endsF]
  rw [h]
theorem endsF_none {f : Int → Option Bool} (up : ∀ b c, f b = none → b ≤ c → f c = none) (n : Nat) : f (128 - n) = none → endsF f n = [] := by
  induction n with
  | zero => exact fun _ => rfl
  | succ n ih =>
    intro h
    have e0 : 128 - ((n + 1 : Nat) : Int) = 127 - n := by omega
    rw [e0] at h
    rw [endsF_no h]
    exact ih (up _ _ h (by omega))
theorem can_less : ∀ {ks : List RT} {lo lo2 : Int} {p : Option Bool}, Can lo p ks → lo2 ≤ lo → Can lo2 p ks
  | [], _, _, _, _, _ => trivial
  | k :: ks, lo, lo2, p, h, hl => ⟨by have := h.1; omega, h.2⟩
theorem endsF_can {f : Int → Option Bool} (up : ∀ b c, f b = none → b ≤ c → f c = none) : ∀ (n : Nat) {p : Option Bool}, (n ≠ 0 → ∀ w, f (128 - n) = some w → p ≠ some w) → Can (128 - n) p (endsF f n) ∧ (∀ k ∈ endsF f n, k.2 ≤ 128) ∧ ∀ b, 128 - (n : Int) ≤ b → b < 128 → rp (endsF f n) b = f b
  | 0, p, _ => ⟨trivial, (fun _ h => by cases h), fun b h1 h2 => by omega⟩
  | n + 1, p, hp => by
    have e0 : 128 - ((n + 1 : Nat) : Int) = 127 - n := by omega
    rw [e0] at hp ⊢
    cases hf : f (127 - n) with
    | none =>
      have z : endsF f (n + 1) = [] := endsF_none up (n + 1) (by rw [e0]; exact hf)
      rw [z]
      refine ⟨trivial, (fun _ h => by cases h), fun b h1 h2 => ?_⟩
      rw [up _ _ hf h1]
      rfl
    | some w =>
      by_cases c : n = 0 ∨ f (128 - n) ≠ some w
      · have z : endsF f (n + 1) = (w, 128 - (n : Int)) :: endsF f n := by
          show (match f (127 - n) with
            | some w => if n = 0 ∨ f (128 - n) ≠ some w then (w, 128 - (n : Int)) :: endsF f n else endsF f n
            | none => endsF f n) = _
          rw [hf]
          exact if_pos c
        obtain ⟨i1, i2, i3⟩ := endsF_can up n (p := some w) fun h0 v hv e => by
          rcases c with c | c
          · exact h0 c
          · exact c (by rw [hv, Option.some.inj e])
        rw [z]
        refine ⟨⟨by show (127 : Int) - n < 128 - n; omega, hp (by omega) w hf, i1⟩, fun k hk => ?_, fun b h1 h2 => ?_⟩
        · rcases List.mem_cons.mp hk with rfl | hk
          · show (128 : Int) - n ≤ 128; omega
          · exact i2 k hk
        · show (if b < 128 - (n : Int) then some w else rp (endsF f n) b) = f b
          by_cases d : b < 128 - (n : Int)
          · rw [if_pos d, ← hf, show b = 127 - (n : Int) by omega]
          · rw [if_neg d]; exact i3 b (by omega) h2
      · have c1 : n ≠ 0 := fun z => c (.inl z)
        have c2 : f (128 - n) = some w := Classical.byContradiction fun z => c (.inr z)
        have z : endsF f (n + 1) = endsF f n := by
          show (match f (127 - n) with
            | some w => if n = 0 ∨ f (128 - n) ≠ some w then (w, 128 - (n : Int)) :: endsF f n else endsF f n
            | none => endsF f n) = _
          rw [hf]
          exact if_neg c
        obtain ⟨i1, i2, i3⟩ := endsF_can up n (p := p) fun _ v hv => by
          rw [c2] at hv
          rw [← Option.some.inj hv]
          exact hp (by omega) w hf
        rw [z]
        refine ⟨can_less i1 (by omega), i2, fun b h1 h2 => ?_⟩
        by_cases d : b < 128 - (n : Int)
        · have hb : b = 127 - (n : Int) := by omega
          have hc : (128 - (n : Int)) < 128 := by omega
          obtain ⟨k, r, hk, hr⟩ := rp_low (b := b) i1 (fun z => by
            have := i3 (128 - (n : Int)) (Int.le_refl _) hc
            rw [z, c2] at this
            cases this) (by omega)
          rw [hr, hb, hf]
          have := i3 (128 - (n : Int)) (Int.le_refl _) hc
          rw [hk, c2] at this
          unfold rp at this
          rw [hk] at i1
          rw [if_pos i1.1] at this
          exact this
        · exact i3 b (by omega) h2
/-- one turn of the law's own plain form, and what it has found after k turns -/
def turnE (f : Int → Option Bool) (k : Nat) : List RT := match f (k + 2) with
  | some w => if k + 1 = 126 ∨ f (k + 3) ≠ some w then [(w, (k : Int) + 3)] else []
  | none => []
def lawR (f : Int → Option Bool) : Nat → List RT
  | 0 => []
  | k + 1 => turnE f k ++ lawR f k
theorem lawR_ends (f : Int → Option Bool) : ∀ (k n : Nat), k + n = 126 → endsF f 126 = (lawR f k).reverse ++ endsF f n
  | 0, n, h => by
    have : n = 126 := by omega
    subst this
    rfl
  | k + 1, n, h => by
    rw [lawR_ends f k (n + 1) (by omega)]
    show _ = (turnE f k ++ lawR f k).reverse ++ _
    rw [List.reverse_append, List.append_assoc]
    congr 1
    have e1 : (127 : Int) - n = k + 2 := by omega
    have e2 : (128 : Int) - n = k + 3 := by omega
    show (match f (127 - n) with
      | some w => if n = 0 ∨ f (128 - n) ≠ some w then (w, 128 - (n : Int)) :: endsF f n else endsF f n
      | none => endsF f n) = _
    unfold turnE
    rw [e1, e2]
    cases f (k + 2) with
    | none => rfl
    | some w =>
      dsimp only
      by_cases c : n = 0 ∨ f (k + 3) ≠ some w
      · rw [if_pos c, if_pos (by rcases c with c | c; exact .inl (by omega); exact .inr c)]
        rfl
      · rw [if_neg c, if_neg (fun z => c (by rcases z with z | z; exact .inl (by omega); exact .inr z))]
        rfl
/-- the law's own plain form is the program's -/
theorem law_plain {ts : List RT} (h : ∀ t ∈ ts, okR t) : lawR (lastW ts) 126 = plainR ts := by
  obtain ⟨a1, a2, a3⟩ := kept_of h
  obtain ⟨b1, b2, b3⟩ := endsF_can (f := lastW ts) (fun b c e l => lastW_up e l) 126 (p := none) fun _ _ _ e => by cases e
  have e : ts.reverse.foldl plS [] = endsF (lastW ts) 126 := can_ext a1 (by exact b1) a2 b2 fun b x y => by rw [a3, b3 b (by omega) y]
  have l := lawR_ends (lastW ts) 126 0 rfl
  rw [show endsF (lastW ts) 0 = [] from rfl, List.append_nil] at l
  unfold plainR
  rw [e, l, List.reverse_reverse]
/-- a work is its own plain form just if its plain form is made of the same fills -/
theorem plain_fix {ts us : List RT} (h1 : ∀ t ∈ ts, okR t) (h2 : ∀ t ∈ us, okR t) : plainR ts = plainR us ↔ ∀ k : Nat, k < 126 → lastW ts (k + 2) = lastW us (k + 2) :=
  (plain_iff h1 h2).trans ⟨fun e k hk => e _ (by omega) (by omega), fun e b x y => by
    have := e (b - 2).toNat (by omega)
    have q : (((b - 2).toNat : Nat) : Int) + 2 = b := by omega
    rw [q] at this
    exact this⟩
end K14M

/-! k14: rows under fills, and what they tell of the last ones. No heap. (Rows as in k13, W5.) -/
namespace K14M
abbrev Bt := Option Bool
def upTo (w : Nat) (c : Bt) (e : Nat) (xs : List Bt) : List Bt := xs.mapIdx fun i x => if w ≤ i ∧ i < e then c else x
theorem upTo_len (w : Nat) (c : Bt) (e : Nat) (xs : List Bt) : (upTo w c e xs).length = xs.length := by simp [upTo]
theorem upTo_get (w : Nat) (c : Bt) (e : Nat) (xs : List Bt) (i : Nat) : (upTo w c e xs)[i]? = xs[i]?.map fun x => if w ≤ i ∧ i < e then c else x := by simp [upTo]
theorem upTo_low {w : Nat} {c : Bt} {e : Nat} {xs : List Bt} (h : e ≤ w) : upTo w c e xs = xs := by
  refine List.ext_getElem? fun i => ?_
  rw [upTo_get]
  cases xs[i]? with
  | none => rfl
  | some x =>
    show some (if w ≤ i ∧ i < e then c else x) = some x
    rw [if_neg (by omega)]
theorem upTo_set {w k : Nat} {c : Bt} {xs : List Bt} (h : w ≤ k) : (upTo w c k xs).set k c = upTo w c (k + 1) xs := by
  refine List.ext_getElem? fun i => ?_
  rw [List.getElem?_set, upTo_get, upTo_get, upTo_len]
  by_cases e : k = i
  · subst e
    rw [if_pos rfl]
    by_cases l : k < xs.length
    · rw [if_pos l, List.getElem?_eq_getElem l]
      show some c = some (if w ≤ k ∧ k < k + 1 then c else xs[k])
      rw [if_pos (by omega)]
    · rw [if_neg l, List.getElem?_eq_none (by omega)]
      rfl
  · rw [if_neg e]
    cases xs[i]? with
    | none => rfl
    | some x =>
      show some (if w ≤ i ∧ i < k then c else x) = some (if w ≤ i ∧ i < k + 1 then c else x)
      by_cases q : w ≤ i ∧ i < k
      · rw [if_pos q, if_pos (by omega)]
      · rw [if_neg q, if_neg (by omega)]
theorem upTo_ext {w : Nat} {c : Bt} {e e' : Nat} {xs : List Bt} (h : ∀ i, i < xs.length → ((w ≤ i ∧ i < e) ↔ (w ≤ i ∧ i < e'))) : upTo w c e xs = upTo w c e' xs := by
  refine List.ext_getElem? fun i => ?_
  rw [upTo_get, upTo_get]
  by_cases l : i < xs.length
  · rw [List.getElem?_eq_getElem l]
    show some (if w ≤ i ∧ i < e then c else xs[i]) = some (if w ≤ i ∧ i < e' then c else xs[i])
    by_cases q : w ≤ i ∧ i < e
    · rw [if_pos q, if_pos ((h i l).mp q)]
    · rw [if_neg q, if_neg fun z => q ((h i l).mpr z)]
  · rw [List.getElem?_eq_none (by omega)]
    rfl
/-- the bit that a fill sets -/
def bitOf (w : Nat) (s : Bool) (xs : List Bt) : Bt := if s then (xs[w - 1]?).getD none else some false
def stepB (w : Nat) (t : Bool × Int) (xs : List Bt) : List Bt := upTo w (bitOf w t.1 xs) t.2.toNat xs
def rowB (w : Nat) (ts : List (Bool × Int)) (xs : List Bt) : List Bt := ts.foldl (fun xs t => stepB w t xs) xs
theorem stepB_len (w : Nat) (t : Bool × Int) (xs : List Bt) : (stepB w t xs).length = xs.length := upTo_len _ _ _ _
theorem rowB_len (w : Nat) : ∀ (ts : List (Bool × Int)) (xs : List Bt), (rowB w ts xs).length = xs.length
  | [], _ => rfl
  | t :: ts, xs => by
    show (rowB w ts (stepB w t xs)).length = _
    rw [rowB_len w ts, stepB_len]
theorem rowB_succ {w : Nat} {ts : List (Bool × Int)} {xs : List Bt} {i : Nat} (h : i < ts.length) : rowB w (ts.take (i + 1)) xs = stepB w ts[i] (rowB w (ts.take i) xs) := by
  rw [List.take_add_one, List.getElem?_eq_getElem h]
  unfold rowB
  rw [List.foldl_append]
  rfl
theorem rowB_app {w : Nat} {ts us : List (Bool × Int)} {xs : List Bt} : rowB w (ts ++ us) xs = rowB w us (rowB w ts xs) := by
  unfold rowB
  rw [List.foldl_append]
/-! ### the same row, from the last fill back -/
theorem bitOf_step {w : Nat} {s : Bool} {t : Bool × Int} {xs : List Bt} (hw : 1 ≤ w) : bitOf w s (stepB w t xs) = bitOf w s xs := by
  unfold bitOf
  cases s with
  | false => rfl
  | true =>
    show ((upTo w (bitOf w t.1 xs) t.2.toNat xs)[w - 1]?).getD none = (xs[w - 1]?).getD none
    rw [upTo_get]
    cases xs[w - 1]? with
    | none => rfl
    | some x =>
      show (some (if w ≤ w - 1 ∧ w - 1 < t.2.toNat then _ else x)).getD none = _
      rw [if_neg (by omega)]
def overB (w : Nat) (xs : List Bt) (us : List (Bool × Int)) (j : Nat) (x : Bt) : Bt := us.foldl (fun x t => if j < t.2.toNat then bitOf w t.1 xs else x) x
theorem rowB_get {w : Nat} (hw : 1 ≤ w) : ∀ (us : List (Bool × Int)) (xs : List Bt) (j : Nat), (rowB w us xs)[j]? = xs[j]?.map fun x => if w ≤ j then overB w xs us j x else x
  | [], xs, j => by
    show xs[j]? = _
    cases xs[j]? with
    | none => rfl
    | some x =>
      show some x = some (if w ≤ j then x else x)
      rw [ite_self]
  | t :: us, xs, j => by
    show (rowB w us (stepB w t xs))[j]? = _
    rw [rowB_get hw us (stepB w t xs) j]
    have e : ∀ x, overB w (stepB w t xs) us j x = overB w xs us j x := fun x => by
      unfold overB
      simp only [bitOf_step hw]
    simp only [e]
    show (upTo w (bitOf w t.1 xs) t.2.toNat xs)[j]?.map _ = _
    rw [upTo_get]
    cases xs[j]? with
    | none => rfl
    | some x =>
      show some (if w ≤ j then overB w xs us j (if w ≤ j ∧ j < t.2.toNat then bitOf w t.1 xs else x) else (if w ≤ j ∧ j < t.2.toNat then bitOf w t.1 xs else x)) = some (if w ≤ j then overB w xs us j (if j < t.2.toNat then bitOf w t.1 xs else x) else x)
      by_cases c : w ≤ j
      · simp [c]
      · simp [c]

theorem over_last (w : Nat) (xs : List Bt) (j : Nat) : ∀ (us : List RT) (x : Bt), overB w xs us j x = match lastW us j with
    | some s => bitOf w s xs
    | none => x
  | [], x => rfl
  | t :: us, x => by
    show overB w xs us j (if j < t.2.toNat then bitOf w t.1 xs else x) = _
    rw [over_last w xs j us]
    simp only [lastW]
    cases lastW us j with
    | some s => rfl
    | none =>
      dsimp only
      by_cases c : j < t.2.toNat
      · rw [if_pos c, if_pos (by omega)]
      · rw [if_neg c, if_neg (by omega)]
/-- the row is told by the last ones -/
theorem row_get {w : Nat} (hw : 1 ≤ w) (us : List RT) (xs : List Bt) (j : Nat) : (rowB w us xs)[j]? = xs[j]?.map fun x => if w ≤ j then (match lastW us j with
    | some s => bitOf w s xs
    | none => x) else x := by
  rw [rowB_get hw]
  simp only [over_last]
theorem row_same {w : Nat} (hw : 2 ≤ w) {ts us : List RT} {xs : List Bt} (hx : xs.length ≤ 128) (h : ∀ b : Int, 2 ≤ b → b < 128 → lastW ts b = lastW us b) : rowB w ts xs = rowB w us xs := by
  refine List.ext_getElem? fun j => ?_
  rw [row_get (by omega), row_get (by omega)]
  by_cases l : j < xs.length
  · by_cases c : w ≤ j
    · rw [h j (by omega) (by omega)]
    · simp only [if_neg c]
  · rw [List.getElem?_eq_none (by omega)]
    rfl
theorem row_plain {w : Nat} (hw : 2 ≤ w) {ts : List RT} (ht : ∀ t ∈ ts, okR t) {xs : List Bt} (hx : xs.length ≤ 128) : rowB w (plainR ts) xs = rowB w ts xs := row_same hw hx fun b _ _ => plain_last ht b
/-- the row that tells all: nothing but a one at bit 1 -/
def loneR : List Bt := (List.replicate 128 (none : Bt)).set 1 (some true)
theorem lone_len : loneR.length = 128 := by simp [loneR]
theorem lone_get {j : Nat} (h : 2 ≤ j) (h2 : j < 128) : loneR[j]? = some none := by
  unfold loneR
  rw [List.getElem?_set_ne (by omega), List.getElem?_replicate, if_pos h2]
theorem lone_one : loneR[1]? = some (some true) := by
  unfold loneR
  rw [List.getElem?_set_self (by rw [List.length_replicate]; omega)]
theorem lone_bit : ∀ s : Bool, bitOf 2 s loneR = some s
  | true => by
    show (loneR[2 - 1]?).getD none = _
    rw [show 2 - 1 = 1 from rfl, lone_one]
    rfl
  | false => rfl
theorem row_tells {ts us : List RT} (h : rowB 2 ts loneR = rowB 2 us loneR) : ∀ b : Int, 2 ≤ b → b < 128 → lastW ts b = lastW us b := by
  intro b hb hb2
  have e : ((b.toNat : Nat) : Int) = b := by omega
  have z := congrArg (fun l => l[b.toNat]?) h
  rw [row_get (by omega), row_get (by omega), lone_get (by omega) (by omega), e] at z
  have z := Option.some.inj z
  dsimp only at z
  rw [if_pos (by omega), if_pos (by omega)] at z
  cases e1 : lastW ts b with
  | none =>
    cases e2 : lastW us b with
    | none => rfl
    | some s => rw [e1, e2] at z; dsimp only at z; rw [lone_bit] at z; cases z
  | some r =>
    cases e2 : lastW us b with
    | none => rw [e1, e2] at z; dsimp only at z; rw [lone_bit] at z; cases z
    | some s => rw [e1, e2] at z; dsimp only at z; rw [lone_bit, lone_bit] at z; exact z
/-- two works do the same on that row just if their plain forms are one -/
theorem row_iff {ts us : List RT} (h1 : ∀ t ∈ ts, okR t) (h2 : ∀ t ∈ us, okR t) : rowB 2 ts loneR = rowB 2 us loneR ↔ plainR ts = plainR us :=
  ⟨fun h => (plain_iff h1 h2).mpr (row_tells h), fun h => row_same (Nat.le_refl _) (by rw [lone_len]; exact Nat.le_refl _) ((plain_iff h1 h2).mp h)⟩
/-- the law's own look: the last of the words of those that reach beyond -/
theorem last_filter : ∀ (ts : List RT) (b : Int), lastW ts b = ((ts.filter fun t => decide (b < t.2)).map (·.1)).getLast?
  | [], _ => rfl
  | t :: ts, b => by
    have ih := last_filter ts b
    by_cases c : b < t.2
    · rw [List.filter_cons_of_pos (by simpa using c), List.map_cons, List.getLast?_cons]
      simp only [lastW]
      rw [ih]
      cases ((ts.filter fun t => decide (b < t.2)).map (·.1)).getLast? with
      | some s => rfl
      | none =>
        dsimp only
        rw [if_pos c]
        rfl
    · rw [List.filter_cons_of_neg (by simpa using c)]
      simp only [lastW]
      rw [ih]
      cases ((ts.filter fun t => decide (b < t.2)).map (·.1)).getLast? with
      | some s => rfl
      | none =>
        dsimp only
        rw [if_neg c]
theorem plS_len (ks : List RT) (t : RT) : (plS ks t).length ≤ ks.length + 1 ∧ ((plS ks t).length = ks.length + 1 → plS ks t = ks ++ [t]) := by
  rcases nil_snoc ks with rfl | ⟨a, k, rfl⟩
  · exact ⟨Nat.le_refl _, fun _ => rfl⟩
  · rw [plS_snoc]
    by_cases c : t.2 ≤ k.2
    · rw [if_pos c]; exact ⟨by omega, fun z => by omega⟩
    · rw [if_neg c]
      by_cases d : t.1 = k.1
      · rw [if_pos d]
        simp only [List.length_append, List.length_singleton]
        exact ⟨by omega, fun z => by omega⟩
      · rw [if_neg d]
        simp only [List.length_append, List.length_singleton]
        exact ⟨by omega, fun _ => trivial⟩
theorem fold_len : ∀ (ts ks : List RT), (ts.foldl plS ks).length ≤ ks.length + ts.length ∧ ((ts.foldl plS ks).length = ks.length + ts.length → ts.foldl plS ks = ks ++ ts)
  | [], ks => ⟨by simp, fun _ => by simp⟩
  | t :: ts, ks => by
    obtain ⟨l1, e1⟩ := plS_len ks t
    obtain ⟨l2, e2⟩ := fold_len ts (plS ks t)
    rw [List.foldl_cons, List.length_cons]
    refine ⟨by omega, fun z => ?_⟩
    have z1 : (plS ks t).length = ks.length + 1 := by omega
    rw [e2 (by omega), e1 z1, List.append_assoc]
    rfl
/-- as many fills as before: it is its own plain form -/
theorem plain_len (ts : List RT) : (plainR ts).length ≤ ts.length ∧ ((plainR ts).length = ts.length → plainR ts = ts) := by
  obtain ⟨l, e⟩ := fold_len ts.reverse []
  unfold plainR
  rw [List.length_reverse] at l ⊢
  rw [List.length_reverse] at e
  simp only [List.length_nil, Nat.zero_add, List.nil_append] at l e
  exact ⟨l, fun z => by rw [e z, List.reverse_reverse]⟩
end K14M

set_option Elab.async false
set_option linter.all false
set_option maxRecDepth 100000
set_option maxHeartbeats 4000000


namespace K14
open PySem L2 UL ClX
local macro_rules | `(tactic| walk_at "txt") => `(tactic| first
  | ((with_reducible show PySem.W.kitOne _ (.ref _) (.ref _) = _); first | exact Txt.ks_Work_Fill (by assumption) | exact Txt.ks_Fill_Work (by assumption))
  | ((with_reducible show PySem.W.notFirst _ _ (.ref _) = _); first | exact Txt.nf_Work_Fill (by assumption) | exact Txt.nf_Fill_Work (by assumption))
  | ((with_reducible show L2.Cls _ _); first | exact UL.CIsi.cl (Txt.i_Fill (by assumption)) | exact UL.CIsi.cl (Txt.i_Work (by assumption)))
  | ((with_reducible show UL.CIsi _ _); first | exact Txt.i_Fill (by assumption) | exact Txt.i_Work (by assumption))
  | ((with_reducible show L2.NoAttr _ _ _); first | exact Txt.n_Fill_word (by assumption) | exact Txt.n_Fill_extent (by assumption) | exact Txt.n_Work_fills (by assumption))
  | ((with_reducible show L2.TyX _ _ _ _); first | exact UL.CIsi.ty (Txt.i_Fill (by assumption)) (by walk_at "look") | exact UL.CIsi.ty (Txt.i_Work (by assumption)) (by walk_at "look"))
  | ((with_reducible show PySem.W.kitOne _ (.type _) (.ref _) = _); first | exact ((Txt.k_Fill (by assumption)) _ (by simp)).1 | exact ((Txt.k_Work (by assumption)) _ (by simp)).1)
  | ((with_reducible show _ = PySem.Value.ref _ ∨ _); first | exact .inl rfl | exact .inr ⟨_, rfl, Txt.no_Fill (by assumption)⟩)
  | fail)
def ffs (w : Str) (e : V) : List (Str × V) := [("_word", .str w), ("_extent", e)]
def FillAt (ad : Ad) (H : Hp) (v : V) (w : Str) (e : V) : Prop := ∃ a dx, v = .ref a ∧ H a = some (.ins ad.c_Fill dx (ffs w e))
theorem FillAt.ev {ad : Ad} {H H' : Hp} {v : V} {w : Str} {e : V} (h : FillAt ad H v w e) (s : Ev H H') : FillAt ad H' v w e := by
  obtain ⟨a, dx, e1, h1⟩ := h
  exact ⟨a, dx, e1, s.ins h1⟩
abbrev fw3 : List V := [.str "free", .str "zeros", .str "sign"]
/-- what a fill is made of, when it is right -/
def fOk (w : Str) (ev : V) : Prop := (w = "free" ∧ ev = .non) ∨ ((w = "zeros" ∨ w = "sign") ∧ ∃ e : Int, ev = .int e ∧ 3 ≤ e ∧ e ≤ 128)
section
variable {P : Program} {w : World} {K : PySem.W.Frag} {mg : Str → Option Value} {base : Heap} {ad : Ad}
@[irreducible] def spFillI (ad : Ad) : Sp := fun vs H Q _ => ∃ (x dx : Addr) (w : Str) (ev : V), vs = [.ref x, .str w, ev] ∧ fOk w ev ∧ H x = some (.ins ad.c_Fill dx []) ∧ ∀ (H' : Hp), H' x = some (.ins ad.c_Fill dx (ffs w ev)) → Stay x H H' → Q .non H'
abbrev st_Fill_init : Stmt := inClass (top 22) 0
theorem sc_Fill_init : FnScope ["self", "word", "extent"] ["self", "word", "extent"] (defScope st_Fill_init) := ⟨rfl, rfl, rfl, by decide +kernel, rfl, by decide +kernel, by decide +kernel⟩
theorem ok_Fill_init {f : Addr} {fd : FuncData} (F : FunD K "__init__" "Fill.__init__" (defArgs st_Fill_init) (defBody st_Fill_init) (defScope st_Fill_init) [.str "free", .non] [] f fd) (T : Txt K mg ad) (c_is_word_of : Cal P w K mg base 1 "is_word_of" (spWordOf K)) (c_is_between : Cal P w K mg base 1 "is_between" (spBetw K)) :
    FnOk P w K mg base CX0 2 f fd ["self", "word", "extent"] (spFillI ad) := by
  refine F.ok sc_Fill_init (fun vs H Q E h => ?_) (fun cdv A outer s H vs Q E hr h => ?_)
  · unfold spFillI at h; obtain (⟨x, dx, w, ev, rfl, ok, hx, q⟩) := h
    rfl
  · unfold spFillI at h; obtain (⟨x, dx, w, ev, rfl, ok, hx, q⟩) := h
    refine ⟨_, pss_cons (ps_if (pt_not (pt_val (pe_c c_is_word_of hr (by decide) (by rfl) (pa_cons (pv 1) (pa_cons (pe_tup (pa_cons (pe_gl (by rfl) T.v_FREE) (pa_cons (pe_gl (by rfl) T.v_ZEROS) (pa_cons (pe_gl (by rfl) T.v_SIGN) pa_nil)))) pa_nil))))) (pss_one ps_never) pss_nil)
      (pss_cons (ps_if (PW.pt (pw_and (pt_cmpR op_eq (pv 1) (pe_gl (by rfl) T.v_FREE) (nomark _)) (pw_and1 (pt_cmpR op_notN (pv 2) pe_non (nomark _))))) (pss_one ps_never) pss_nil)
      (pss_cons (ps_if (PW.pt (pw_and (pt_cmpR op_ne (pv 1) (pe_gl (by rfl) T.v_FREE) (nomark _)) (pw_and1 (pt_not (pt_val (pe_c c_is_between hr (by decide) (by rfl) (pa_cons (pv 2) (pa_cons (pe_gl (by rfl) T.v_LEAST_EXTENT) (pa_cons (pe_gl (by rfl) T.v_MOST_BITS) pa_nil))))))))) (pss_one ps_never) pss_nil)
      (pss_cons (ps_fld (pv 0) (pv 1) rfl)
      (pss_one (ps_fld (pv 0) (pv 2) rfl))))), ?_⟩
    walk_at "go"
    rename_i t ht
    have sT := same_new (o := .tup [.str "free", .str "zeros", .str "sign"]) ht
    have hxT := sT _ _ hx
    refine ⟨.str w, .str w, t, fw3, rfl, .inl (.str _), SqT.of upd_same, rfl, _, rfl, ?_⟩
    have hw : inS fw3 (.str w) = true := by rcases ok with ⟨rfl, _⟩ | ⟨rfl | rfl, _⟩ <;> rfl
    rw [hw]
    refine iteF ?_
    rcases ok with ⟨rfl, rfl⟩ | ⟨hz, e, rfl, e0, e1⟩
    · walk_at "go"
      exact q _ (by walk_at "look") (by walk_at "stay")
    have hb : betD 3 128 (.int e) = true := by simp [betD, e0, e1]
    rcases hz with rfl | rfl
    all_goals
      walk_at "go"
      refine ⟨.int e, .int e, 3, 128, rfl, .inl (.int _), _, rfl, ?_⟩
      rw [hb]
      refine iteF ?_
      walk_at "go"
      exact q _ (by walk_at "look") (by walk_at "stay")
def spFGet (ad : Ad) (f : Str → V → V) : Sp := fun vs H Q _ => ∃ v w e, vs = [v] ∧ FillAt ad H v w e ∧ Q (f w e) H
abbrev st_Fill_word : Stmt := inClass (top 22) 2
theorem sc_Fill_word : FnScope ["self"] ["self"] (defScope st_Fill_word) := ⟨rfl, rfl, rfl, by decide +kernel, rfl, by decide +kernel, by decide +kernel⟩
theorem ok_Fill_word {f : Addr} {fd : FuncData} (F : Fun K "word" "Fill.word" st_Fill_word f fd) (T : Txt K mg ad)  :
    FnOk P w K mg base CX0 1 f fd ["self"] (spFGet ad fun w _ => .str w) := by
  refine F.ok sc_Fill_word (fun vs H Q E h => ?_) (fun cdv A outer s H vs Q E hr h => ?_)
  · obtain (⟨v, w, e, rfl, ⟨a, dx, rfl, h1⟩, q⟩) := h
    rfl
  · obtain (⟨v, w, e, rfl, ⟨a, dx, rfl, h1⟩, q⟩) := h
    refine ⟨_, pss_one (ps_ret (pe_fld (pv 0) rfl)), ?_⟩
    walk_at "go"
    exact q
abbrev st_Fill_extent : Stmt := inClass (top 22) 3
theorem sc_Fill_extent : FnScope ["self"] ["self"] (defScope st_Fill_extent) := ⟨rfl, rfl, rfl, by decide +kernel, rfl, by decide +kernel, by decide +kernel⟩
theorem ok_Fill_extent {f : Addr} {fd : FuncData} (F : Fun K "extent" "Fill.extent" st_Fill_extent f fd) (T : Txt K mg ad)  :
    FnOk P w K mg base CX0 1 f fd ["self"] (spFGet ad fun _ e => e) := by
  refine F.ok sc_Fill_extent (fun vs H Q E h => ?_) (fun cdv A outer s H vs Q E hr h => ?_)
  · obtain (⟨v, w, e, rfl, ⟨a, dx, rfl, h1⟩, q⟩) := h
    rfl
  · obtain (⟨v, w, e, rfl, ⟨a, dx, rfl, h1⟩, q⟩) := h
    refine ⟨_, pss_one (ps_ret (pe_fld (pv 0) rfl)), ?_⟩
    walk_at "go"
    exact q
abbrev st_Fill_is_free : Stmt := inClass (top 22) 4
theorem sc_Fill_is_free : FnScope ["self"] ["self"] (defScope st_Fill_is_free) := ⟨rfl, rfl, rfl, by decide +kernel, rfl, by decide +kernel, by decide +kernel⟩
theorem ok_Fill_is_free {f : Addr} {fd : FuncData} (F : Fun K "is_free" "Fill.is_free" st_Fill_is_free f fd) (T : Txt K mg ad)  :
    FnOk P w K mg base CX0 1 f fd ["self"] (spFGet ad fun _ e => .bl (decide (e = .non))) := by
  refine F.ok sc_Fill_is_free (fun vs H Q E h => ?_) (fun cdv A outer s H vs Q E hr h => ?_)
  · obtain (⟨v, w, e, rfl, ⟨a, dx, rfl, h1⟩, q⟩) := h
    rfl
  · obtain (⟨v, w, e, rfl, ⟨a, dx, rfl, h1⟩, q⟩) := h
    refine ⟨_, pss_one (ps_ret (pe_cmpR op_isN (pe_fld (pv 0) rfl) pe_non (nomark _))), ?_⟩
    walk_at "go"
    exact q
end
end K14
set_option Elab.async false
set_option linter.all false
set_option maxRecDepth 100000
set_option maxHeartbeats 4000000


namespace K14
open PySem L2 UL ClX
local macro_rules | `(tactic| walk_at "txt") => `(tactic| first
  | ((with_reducible show PySem.W.kitOne _ (.ref _) (.ref _) = _); first | exact Txt.ks_Work_Fill (by assumption) | exact Txt.ks_Fill_Work (by assumption))
  | ((with_reducible show PySem.W.notFirst _ _ (.ref _) = _); first | exact Txt.nf_Work_Fill (by assumption) | exact Txt.nf_Fill_Work (by assumption))
  | ((with_reducible show L2.Cls _ _); first | exact UL.CIsi.cl (Txt.i_Fill (by assumption)) | exact UL.CIsi.cl (Txt.i_Work (by assumption)))
  | ((with_reducible show UL.CIsi _ _); first | exact Txt.i_Fill (by assumption) | exact Txt.i_Work (by assumption))
  | ((with_reducible show L2.NoAttr _ _ _); first | exact Txt.n_Fill_word (by assumption) | exact Txt.n_Fill_extent (by assumption) | exact Txt.n_Work_fills (by assumption))
  | ((with_reducible show L2.TyX _ _ _ _); first | exact UL.CIsi.ty (Txt.i_Fill (by assumption)) (by walk_at "look") | exact UL.CIsi.ty (Txt.i_Work (by assumption)) (by walk_at "look"))
  | ((with_reducible show PySem.W.kitOne _ (.type _) (.ref _) = _); first | exact ((Txt.k_Fill (by assumption)) _ (by simp)).1 | exact ((Txt.k_Work (by assumption)) _ (by simp)).1)
  | ((with_reducible show _ = PySem.Value.ref _ ∨ _); first | exact .inl rfl | exact .inr ⟨_, rfl, Txt.no_Fill (by assumption)⟩)
  | fail)
def NotI (K : PySem.W.Frag) (H : Hp) (C : Addr) (v : V) : Prop := ∃ t, TyX K H v t ∧ PySem.W.kitOne K t (.ref C) = some false ∧ SelfV v
theorem NotI.ev {K : PySem.W.Frag} {H H' : Hp} {C : Addr} {v : V} (h : NotI K H C v) (s : Ev H H') : NotI K H' C v := by
  obtain ⟨t, h1, h2, h3⟩ := h
  exact ⟨t, TyX.ev h1 s, h2, h3⟩
def KitC (K : PySem.W.Frag) (C : Addr) : Prop := ∀ T ∈ (["NoneType", "tuple", "str", "int", "list", "bool", "dict"] : List String), PySem.W.kitOne K (.type T) (.ref C) = some false ∧ PySem.W.notFirst K C (.type T) = true
theorem noti_vd {K : PySem.W.Frag} {H : Hp} {C : Addr} {v : V} {d : PyData} (k : KitC K C) (h : Vd K H v d) : NotI K H C v := ⟨_, h.ty, (k _ (tyN_mem d)).1, Vd.self h⟩
theorem noti_in {K : PySem.W.Frag} {H : Hp} {C D a dx : Addr} {fs : List (Str × V)} (c : CIsi K D) (k : PySem.W.kitOne K (.ref D) (.ref C) = some false) (h : H a = some (.ins D dx fs)) : NotI K H C (.ref a) := ⟨_, UL.CIsi.ty c h, k, .inr ⟨_, rfl⟩⟩
def GoodF (ad : Ad) (H : Hp) (u : V) : Prop := ∃ w e, FillAt ad H u w (.int e)
def BadF (K : PySem.W.Frag) (ad : Ad) (H : Hp) (u : V) : Prop := NotI K H ad.c_Fill u ∨ ∃ w, FillAt ad H u w .non
theorem GoodF.ev {ad : Ad} {H H' : Hp} {u : V} (h : GoodF ad H u) (s : Ev H H') : GoodF ad H' u := by
  obtain ⟨w, e, h⟩ := h
  exact ⟨w, e, h.ev s⟩
theorem BadF.ev {K : PySem.W.Frag} {ad : Ad} {H H' : Hp} {u : V} (h : BadF K ad H u) (s : Ev H H') : BadF K ad H' u := by
  rcases h with h | ⟨w, h⟩
  · exact .inl (h.ev s)
  · exact .inr ⟨w, h.ev s⟩
section
variable {P : Program} {w : World} {K : PySem.W.Frag} {mg : Str → Option Value} {base : Heap} {ad : Ad}
abbrev st_InvalidWork_init : Stmt := inClass (top 10) 0
theorem sc_InvalidWork_init : FnScope ["self", "position"] ["self", "position"] (defScope st_InvalidWork_init) := ⟨rfl, rfl, rfl, by decide +kernel, rfl, by decide +kernel, by decide +kernel⟩
theorem ok_InvalidWork_init {f : Addr} {fd : FuncData} (F : Fun K "__init__" "InvalidWork.__init__" st_InvalidWork_init f fd) (T : Txt K mg ad)  :
    FnOk P w K mg base CX0 1 f fd ["self", "position"] (spExI ad.c_InvalidWork ["position"]) := by
  refine F.ok sc_InvalidWork_init (fun vs H Q E h => ?_) (fun cdv A outer s H vs Q E hr h => ?_)
  · obtain (⟨a, ws, rfl, hl, ha, q⟩) := h
    simpa using hl
  · obtain (⟨a, ws, rfl, hl, ha, q⟩) := h
    refine ⟨_, pss_one (ps_exs T.x_InvalidWork T.xn_InvalidWork_position (pv 1) (pv 0)), ?_⟩
    match ws, hl with
    | [v], _ =>
      walk_at "go"
      rename_i d hd hne
      exact q d _ hd hne rfl
abbrev st_TooMany_init : Stmt := inClass (top 13) 0
theorem sc_TooMany_init : FnScope ["self", "what", "limit"] ["self", "what", "limit"] (defScope st_TooMany_init) := ⟨rfl, rfl, rfl, by decide +kernel, rfl, by decide +kernel, by decide +kernel⟩
theorem ok_TooMany_init {f : Addr} {fd : FuncData} (F : Fun K "__init__" "TooMany.__init__" st_TooMany_init f fd) (T : Txt K mg ad)  :
    FnOk P w K mg base CX0 1 f fd ["self", "what", "limit"] (spExI ad.c_TooMany ["what", "limit"]) := by
  refine F.ok sc_TooMany_init (fun vs H Q E h => ?_) (fun cdv A outer s H vs Q E hr h => ?_)
  · obtain (⟨a, ws, rfl, hl, ha, q⟩) := h
    simpa using hl
  · obtain (⟨a, ws, rfl, hl, ha, q⟩) := h
    refine ⟨_, pss_cons (ps_exs T.x_TooMany T.xn_TooMany_what (pv 1) (pv 0))
      (pss_one (ps_exs T.x_TooMany T.xn_TooMany_limit (pv 2) (pv 0))), ?_⟩
    match ws, hl with
    | [v, u], _ =>
      walk_at "go"
      rename_i d hd hne
      refine ⟨by simp, q d _ hd hne ?_⟩
      funext b
      by_cases c1 : b = d
      · subst c1
        rw [upd_same, if_neg hne, if_pos rfl]
        rfl
      · rw [upd_ne c1, if_neg c1]
        by_cases c2 : b = a
        · rw [c2, upd_same, if_pos rfl]
        · rw [upd_ne c2, upd_ne c1, if_neg c2]
def spWorkB (K : PySem.W.Frag) (ad : Ad) : Sp := fun vs H Q E => ∃ (x dx kt : Addr) (ws : List V) (k : Nat), vs = [.ref x, .ref kt] ∧ H kt = some (.tup ws) ∧ ws.length ≤ 1000 ∧ H x = some (.ins ad.c_Work dx []) ∧
  (∀ (i : Nat) (u : V), i < k → ws[i]? = some u → GoodF ad H u) ∧
  ((∃ u, ws[k]? = some u ∧ BadF K ad H u ∧ ∀ d H', H d = none → H' d = some (.xd [("position", .int (k : Int))]) → L2.Same H H' → E (.ref ad.c_InvalidWork) (some d) H') ∨
    (k = ws.length ∧ 126 < ws.length ∧ ∀ d H', H d = none → H' d = some (.xd [("limit", .int 126), ("what", .str "fills")]) → L2.Same H H' → E (.ref ad.c_TooMany) (some d) H') ∨
    (k = ws.length ∧ ws.length ≤ 126 ∧ ∀ H', H' x = some (.ins ad.c_Work dx [("_fills", .ref kt)]) → Stay x H H' → Q .non H'))
abbrev st_Work_init : Stmt := inClass (top 23) 0
theorem sc_Work_init : FnScope ["self", "fills", "position", "fill"] ["self", "fills"] (defScope st_Work_init) := ⟨rfl, rfl, rfl, by decide +kernel, rfl, by decide +kernel, by decide +kernel⟩
theorem ok_Work_init {f : Addr} {cdv : Value} (c_Fill_is_free : CalP P w K mg base 1 ad.c_Fill "is_free" (spFGet ad fun _ e => .bl (decide (e = .non)))) (e_InvalidWork : MakE P w K mg base 1 "InvalidWork" ad.c_InvalidWork ["position"]) (e_TooMany : MakE P w K mg base 1 "TooMany" ad.c_TooMany ["what", "limit"]) (T : Txt K mg ad) {A : Around} {outer : List Env} {s : Shared} {H : Hp} {vs : List V} {Q : VK} {E : XK} (hr : Room 2 (A.deeper (PyProof.Rows.envOfC "Work.__init__" (defScope st_Work_init) s.heap.objs.size f cdv))) (h : (spWorkB K ad) vs H Q E) :
    ∃ t, PSs (cxOf (L2.CX P w) P w K mg base ["self", "fills", "position", "fill"] "Work.__init__" (defScope st_Work_init) f cdv A outer s H E) (defBody st_Work_init) t ∧ t { nx := fun _ H' => Q .non H', rt := Q } (L2.start ["self", "fills", "position", "fill"] vs) H := by
  · obtain (⟨x, dx, kt, ws, k, rfl, hkt, hl, hx, hg, hk⟩) := h
    refine ⟨_, pss_cons (ps_for (passes_of rfl) rfl (pi_enumT (by rfl) T.bi.enumerate (pa_cons (pv 1) pa_nil)) (pg_tup rfl (pgs_cons (pg_name (i := 2) sc_Work_init.nd rfl (Or.inl rfl)) (pgs_cons (pg_name (i := 3) sc_Work_init.nd rfl (Or.inl rfl)) pgs_nil)))
        (pss_one (ps_if (PW.pt (pw_or (pt_not (pt_val (pe_callB call_isi (by rfl) T.bi.isinstance (by decide +kernel) (pa_cons (pv 3) (pa_cons (pe_glob (v := .ref ad.c_Fill) (by rfl) T.g_Fill rfl) pa_nil))))) (pw_or1 (pt_val (pe_p (pv 3) c_Fill_is_free hr (by decide) (by rfl)))))) (pss_one (ps_raise rfl (takes_of rfl rfl rfl rfl) (pmk_E e_InvalidWork hr (by decide) (by decide) (by rfl) (pa_cons (pv 2) pa_nil)))) pss_nil)))
      (pss_cons (ps_if (pt_cmpR op_gt (pe_callB call_len_seq (by rfl) T.bi.len (by decide +kernel) (pa_cons (pv 1) pa_nil)) (pe_gl (by rfl) T.v_MOST_FILLS) (nomark _)) (pss_one (ps_raise rfl (takes_of rfl rfl rfl rfl) (pmk_E e_TooMany hr (by decide) (by decide) (by rfl) (pa_cons pe_str (pa_cons (pe_gl (by rfl) T.v_MOST_FILLS) pa_nil))))) pss_nil)
      (pss_one (ps_fld (pv 0) (pv 1) rfl))), ?_⟩
    have nkx : kt ≠ x := ne_of hkt hx (by intro z; cases z)
    refine ⟨_, rfl, kt, _, rfl, .inr ⟨SqT.of hkt, for_it (walk_enumT (xs := ws)) (fun i σ H' => Hold (∃ a b, σ = [some (.ref x), some (.ref kt), a, b] ∧ L2.Same H H' ∧ i ≤ k)) (Hold.mk ⟨_, _, rfl, L2.Same.refl _, Nat.zero_le _⟩) (fun i σ H1 _ hh => ?_) (fun i y σ H1 H' hi hh hy => ?_) (fun σ H1 hh => ?_)⟩⟩
    · obtain ⟨_, _, _, s1, _⟩ := hh.out
      exact SqT.of (s1 _ _ hkt)
    · obtain ⟨a, b, es, s1, ik⟩ := hh.out
      clear hh
      subst es
      obtain ⟨T1, u, v, rfl, hT1, rfl, hu, hv⟩ := hy
      cases hu
      have s2 := s1.trans (same_new (o := .tup [V.int ((i : Nat) : Int), v]) hT1)
      by_cases c : i < k
      · obtain ⟨w, e, fa, fdx, rfl, hf⟩ := (hg i v c hv).ev (Ev.same s2)
        have hF : FillAt ad (upd H1 T1 (.tup [V.int ((i : Nat) : Int), V.ref fa])) (.ref fa) w (.int e) := ⟨fa, fdx, rfl, hf⟩
        walk_at "go"
        exact Hold.mk ⟨_, _, rfl, s2, by omega⟩
      · have : i = k := by omega
        subst this
        rcases hk with ⟨u, hu, bad, kE⟩ | ⟨e, _, _⟩ | ⟨e, _, _⟩
        · have hv' : ws[i]? = some v := hv
          rw [hv'] at hu
          cases hu
          rcases bad.ev (Ev.same s2) with ⟨t, ht, kt', _⟩ | ⟨w, fa, fdx, rfl, hf⟩
          · walk_at "go"
            rename_i d hd
            exact kE d _ (UL.Same.none s2 hd) upd_same (s2.trans (same_new hd))
          · have hF : FillAt ad (upd H1 T1 (.tup [V.int ((i : Nat) : Int), V.ref fa])) (.ref fa) w .non := ⟨fa, fdx, rfl, hf⟩
            walk_at "go"
            rename_i d hd
            exact kE d _ (UL.Same.none s2 hd) upd_same (s2.trans (same_new hd))
        · have := (List.getElem?_eq_some_iff.mp hv).1
          omega
        · have := (List.getElem?_eq_some_iff.mp hv).1
          omega
    obtain ⟨a, b, es, s1, ik⟩ := hh.out
    clear hh
    subst es
    rcases hk with ⟨u, hu, _⟩ | ⟨e, c, kE⟩ | ⟨e, c, kk⟩
    · have := (List.getElem?_eq_some_iff.mp hu).1
      omega
    · have cd : decide ((ws.length : Int) ≤ 126) = false := decide_eq_false (by omega)
      have ce : decide ((126 : Int) < (ws.length : Int)) = true := decide_eq_true (by omega)
      have hT := SqT.of (K := K) (s1 _ _ hkt)
      walk_at "go"
      rename_i d hd
      exact kE d _ (UL.Same.none s1 hd) upd_same (s1.trans (same_new hd))
    · have ce : decide ((126 : Int) < (ws.length : Int)) = false := decide_eq_false (by omega)
      walk_at "go"
      exact kk _ (by walk_at "look") (Stay.trans (UL.Same.stay s1 x) stay_upd)
end
end K14
set_option Elab.async false
set_option linter.all false
set_option maxRecDepth 100000
set_option maxHeartbeats 4000000


namespace K14
open PySem L2 UL ClX
local macro_rules | `(tactic| walk_at "txt") => `(tactic| first
  | ((with_reducible show PySem.W.kitOne _ (.ref _) (.ref _) = _); first | exact Txt.ks_Work_Fill (by assumption) | exact Txt.ks_Fill_Work (by assumption))
  | ((with_reducible show PySem.W.notFirst _ _ (.ref _) = _); first | exact Txt.nf_Work_Fill (by assumption) | exact Txt.nf_Fill_Work (by assumption))
  | ((with_reducible show L2.Cls _ _); first | exact UL.CIsi.cl (Txt.i_Fill (by assumption)) | exact UL.CIsi.cl (Txt.i_Work (by assumption)))
  | ((with_reducible show UL.CIsi _ _); first | exact Txt.i_Fill (by assumption) | exact Txt.i_Work (by assumption))
  | ((with_reducible show L2.NoAttr _ _ _); first | exact Txt.n_Fill_word (by assumption) | exact Txt.n_Fill_extent (by assumption) | exact Txt.n_Work_fills (by assumption))
  | ((with_reducible show L2.TyX _ _ _ _); first | exact UL.CIsi.ty (Txt.i_Fill (by assumption)) (by walk_at "look") | exact UL.CIsi.ty (Txt.i_Work (by assumption)) (by walk_at "look"))
  | ((with_reducible show PySem.W.kitOne _ (.type _) (.ref _) = _); first | exact ((Txt.k_Fill (by assumption)) _ (by simp)).1 | exact ((Txt.k_Work (by assumption)) _ (by simp)).1)
  | ((with_reducible show _ = PySem.Value.ref _ ∨ _); first | exact .inl rfl | exact .inr ⟨_, rfl, Txt.no_Fill (by assumption)⟩)
  | fail)
open K14M (RT okR plS plainR lastW)
def wdS (b : Bool) : Str := if b then "sign" else "zeros"
/-- these are fills of ts, in this order -/
def FsAt (ad : Ad) (H : Hp) (fs : List V) (ts : List RT) : Prop := fs.length = ts.length ∧ ∀ (i : Nat) (u : V) (t : RT), fs[i]? = some u → ts[i]? = some t → FillAt ad H u (wdS t.1) (.int t.2)
theorem FsAt.ev {ad : Ad} {H H' : Hp} {fs : List V} {ts : List RT} (h : FsAt ad H fs ts) (s : Ev H H') : FsAt ad H' fs ts := ⟨h.1, fun i u t e1 e2 => (h.2 i u t e1 e2).ev s⟩
theorem FsAt.nil {ad : Ad} {H : Hp} : FsAt ad H [] [] := ⟨rfl, fun i u t e _ => by simp at e⟩
theorem FsAt.app {ad : Ad} {H : Hp} {fs gs : List V} {ts us : List RT} (h : FsAt ad H fs ts) (g : FsAt ad H gs us) : FsAt ad H (fs ++ gs) (ts ++ us) := by
  refine ⟨by rw [List.length_append, List.length_append, h.1, g.1], fun i u t e1 e2 => ?_⟩
  by_cases c : i < fs.length
  · rw [List.getElem?_append_left c] at e1
    rw [List.getElem?_append_left (by rw [← h.1]; exact c)] at e2
    exact h.2 i u t e1 e2
  · rw [List.getElem?_append_right (by omega)] at e1
    rw [List.getElem?_append_right (by rw [← h.1]; omega), ← h.1] at e2
    exact g.2 _ u t e1 e2
theorem FsAt.one {ad : Ad} {H : Hp} {u : V} {t : RT} (h : FillAt ad H u (wdS t.1) (.int t.2)) : FsAt ad H [u] [t] := ⟨rfl, fun i v s e1 e2 => by
  obtain rfl : i = 0 := by
    have := (List.getElem?_eq_some_iff.mp e1).1
    simpa using this
  cases e1
  cases e2
  exact h⟩
theorem FsAt.rev {ad : Ad} {H : Hp} {fs : List V} {ts : List RT} (h : FsAt ad H fs ts) : FsAt ad H fs.reverse ts.reverse := by
  refine ⟨by rw [List.length_reverse, List.length_reverse, h.1], fun i u t e1 e2 => ?_⟩
  have l := (List.getElem?_eq_some_iff.mp e1).1
  rw [List.length_reverse] at l
  rw [List.getElem?_reverse l] at e1
  rw [List.getElem?_reverse (by rw [← h.1]; exact l), ← h.1] at e2
  exact h.2 _ u t e1 e2
/-- a work of these fills -/
def WkAt (ad : Ad) (H : Hp) (v : V) (ts : List RT) : Prop := ∃ a dx tp fs, v = .ref a ∧ H a = some (.ins ad.c_Work dx [("_fills", .ref tp)]) ∧ H tp = some (.tup fs) ∧ FsAt ad H fs ts ∧ ts.length ≤ 126 ∧ ∀ t ∈ ts, okR t
theorem WkAt.ev {ad : Ad} {H H' : Hp} {v : V} {ts : List RT} (h : WkAt ad H v ts) (s : Ev H H') : WkAt ad H' v ts := by
  obtain ⟨a, dx, tp, fs, e, h1, h2, h3, h4⟩ := h
  exact ⟨a, dx, tp, fs, e, s.ins h1, s.tup h2, h3.ev s, h4⟩
theorem FsAt.good {ad : Ad} {H : Hp} {fs : List V} {ts : List RT} (h : FsAt ad H fs ts) : ∀ u ∈ fs, GoodF ad H u := fun u hu => by
  obtain ⟨i, hi, e⟩ := List.getElem_of_mem hu
  have l : i < ts.length := by rw [← h.1]; exact hi
  exact ⟨_, _, h.2 i u ts[i] (by rw [← e]; exact List.getElem?_eq_getElem hi) (List.getElem?_eq_getElem l)⟩
section
variable {P : Program} {w : World} {K : PySem.W.Frag} {mg : Str → Option Value} {base : Heap} {ad : Ad}
/-- a work of any fills: refused at the first wrong one, or for being more than 126, or made -/
@[irreducible] def spWorkR (K : PySem.W.Frag) (ad : Ad) : Sp := fun vs H Q E => ∃ (x dx : Addr) (ws : List V) (k : Nat), vs = .ref x :: ws ∧ ws.length ≤ 1000 ∧ H x = some (.ins ad.c_Work dx []) ∧
  (∀ (i : Nat) (u : V), i < k → ws[i]? = some u → GoodF ad H u) ∧
  ((∃ u, ws[k]? = some u ∧ BadF K ad H u ∧ ∀ d H', H d = none → H' d = some (.xd [("position", .int (k : Int))]) → L2.Same H H' → E (.ref ad.c_InvalidWork) (some d) H') ∨
    (k = ws.length ∧ 126 < ws.length ∧ ∀ d H', H d = none → H' d = some (.xd [("limit", .int 126), ("what", .str "fills")]) → L2.Same H H' → E (.ref ad.c_TooMany) (some d) H') ∨
    (k = ws.length ∧ ws.length ≤ 126 ∧ ∀ H' tp, H' x = some (.ins ad.c_Work dx [("_fills", .ref tp)]) → H' tp = some (.tup ws) → H tp = none → Stay x H H' → Q .non H'))
theorem sp_Work_init : FnScope ["self", "fills", "position", "fill"] ((["self"] : List Str) ++ (["fills"] : List Str)) (defScope st_Work_init) := sc_Work_init
theorem r_Work_init {f : Addr} {oc : Value} {od an : Option Addr} {osl : Array (Option Value)} {kV doc pm cdv ct : Value} (lk : K.lookup f = some ⟨oc, od, .func (PySem.W.fnOf "__init__" "Work.__init__" (defArgs st_Work_init) (defBody st_Work_init) (defScope st_Work_init) .none kV doc pm an cdv ct), osl⟩) (hcd : PySem.W.codeIn K cdv "Work.__init__" = true) (c_Fill_is_free : CalP P w K mg base 1 ad.c_Fill "is_free" (spFGet ad fun _ e => .bl (decide (e = .non)))) (e_InvalidWork : MakE P w K mg base 1 "InvalidWork" ad.c_InvalidWork ["position"]) (e_TooMany : MakE P w K mg base 1 "TooMany" ad.c_TooMany ["what", "limit"]) (T : Txt K mg ad) : FnR P w K mg base (L2.CX P w) 3 f (spWorkR K ad) := by
  refine (StX.fn_star (ps := ["self"]) (pv := "fills") (sp := (spWorkB K ad)) lk hcd sp_Work_init StX.cxUp (StX.bind_star1 (B := fun us => bindArgs (PySem.W.fnOf "__init__" "Work.__init__" (defArgs st_Work_init) (defBody st_Work_init) (defScope st_Work_init) .none kV doc pm an cdv ct) ⟨us, []⟩) (p1 := "self") (pv := "fills") (fun _  => rfl) fun _ _ _  => rfl) fun A outer s H vs Q E hr hsp => ?_).imp fun vs H Q E h => ?_
  · obtain ⟨t, ht, q⟩ := ok_Work_init c_Fill_is_free e_InvalidWork e_TooMany T hr hsp
    exact ⟨t, ht, q⟩
  · unfold spWorkR at h; obtain ⟨x, dx, ws, k, rfl, hl, hx, hg, hk⟩ := h
    refine ⟨[.ref x], ws, rfl, rfl, line_ge (by omega), fun p hp => ?_⟩
    have s1 := same_new (o := .tup ws) hp
    refine ⟨x, dx, p, ws, k, rfl, upd_same, hl, s1 _ _ hx, fun i u a b => (hg i u a b).ev (Ev.same s1), ?_⟩
    rcases hk with ⟨u, hu, bad, kE⟩ | ⟨e, c, kE⟩ | ⟨e, c, kk⟩
    · exact .inl ⟨u, hu, bad.ev (Ev.same s1), fun d H' hd hf st => kE d H' (up_none hd) hf (s1.trans st)⟩
    · exact .inr (.inl ⟨e, c, fun d H' hd hf st => kE d H' (up_none hd) hf (s1.trans st)⟩)
    · refine .inr (.inr ⟨e, c, fun H' h1 st => ?_⟩)
      have nxp := ne_new hp hx
      exact kk H' p h1 (st _ _ nxp upd_same) hp (Stay.trans (UL.Same.stay s1 x) st)
/-- one step before a work is made -/
theorem wkR {H1 : Hp} {x dx : Addr} {ws : List V} {ts : List RT} {R : VK} {E : XK} (nx : H1 x = none) (nd_ : H1 dx = none) (ne : dx ≠ x) (hw : FsAt ad H1 ws ts) (hl : ts.length ≤ 126) (ho : ∀ t ∈ ts, okR t) (q : ∀ H', L2.Same H1 H' → WkAt ad H' (.ref x) ts → R .non H') :
    spWorkR K ad (.ref x :: ws) (upd (upd H1 dx (.own x)) x (.ins ad.c_Work dx [])) R E := by
  have s1 : L2.Same H1 (upd H1 dx (.own x)) := same_new nd_
  have n2 : upd H1 dx (.own x) x = none := by rw [upd_ne ne.symm]; exact nx
  have s2 := s1.trans (same_new (o := .ins ad.c_Work dx []) n2)
  have e := hw.1
  unfold spWorkR
  refine ⟨x, dx, ws, ws.length, rfl, by omega, upd_same, fun i v a b => (hw.good v (List.mem_of_getElem? b)).ev (Ev.same s2), .inr (.inr ⟨rfl, by omega, fun H' tp h1 h2 _ st => ?_⟩)⟩
  have s3 : L2.Same H1 H' := fun b o e => st b o (ne_of_none e nx) (s2 b o e)
  exact q H' s3 ⟨x, dx, tp, ws, rfl, h1, h2, hw.ev (Ev.same s3), hl, ho⟩
end
end K14
set_option Elab.async false
set_option linter.all false
set_option maxRecDepth 100000
set_option maxHeartbeats 4000000


namespace K14
open PySem L2 UL ClX
local macro_rules | `(tactic| walk_at "txt") => `(tactic| first
  | ((with_reducible show PySem.W.kitOne _ (.ref _) (.ref _) = _); first | exact Txt.ks_Work_Fill (by assumption) | exact Txt.ks_Fill_Work (by assumption))
  | ((with_reducible show PySem.W.notFirst _ _ (.ref _) = _); first | exact Txt.nf_Work_Fill (by assumption) | exact Txt.nf_Fill_Work (by assumption))
  | ((with_reducible show L2.Cls _ _); first | exact UL.CIsi.cl (Txt.i_Fill (by assumption)) | exact UL.CIsi.cl (Txt.i_Work (by assumption)))
  | ((with_reducible show UL.CIsi _ _); first | exact Txt.i_Fill (by assumption) | exact Txt.i_Work (by assumption))
  | ((with_reducible show L2.NoAttr _ _ _); first | exact Txt.n_Fill_word (by assumption) | exact Txt.n_Fill_extent (by assumption) | exact Txt.n_Work_fills (by assumption))
  | ((with_reducible show L2.TyX _ _ _ _); first | exact UL.CIsi.ty (Txt.i_Fill (by assumption)) (by walk_at "look") | exact UL.CIsi.ty (Txt.i_Work (by assumption)) (by walk_at "look"))
  | ((with_reducible show PySem.W.kitOne _ (.type _) (.ref _) = _); first | exact ((Txt.k_Fill (by assumption)) _ (by simp)).1 | exact ((Txt.k_Work (by assumption)) _ (by simp)).1)
  | ((with_reducible show _ = PySem.Value.ref _ ∨ _); first | exact .inl rfl | exact .inr ⟨_, rfl, Txt.no_Fill (by assumption)⟩)
  | fail)
open K14M (RT okR plS plainR lastW)
theorem FsAt.stay {ad : Ad} {H H' : Hp} {fs : List V} {ts : List RT} {l : Addr} {xs : List V} (h : FsAt ad H fs ts) (s : Stay l H H') (hl : H l = some (.lst xs)) : FsAt ad H' fs ts := ⟨h.1, fun i u t e1 e2 => by
  obtain ⟨a, dx, e, h1⟩ := h.2 i u t e1 e2
  exact ⟨a, dx, e, s _ _ (ne_of h1 hl (by intro z; cases z)) h1⟩⟩
theorem FsAt.split {ad : Ad} {H : Hp} {fs : List V} {ts : List RT} {k : RT} (h : FsAt ad H fs (ts ++ [k])) : ∃ gs u, fs = gs ++ [u] ∧ FsAt ad H gs ts ∧ FillAt ad H u (wdS k.1) (.int k.2) := by
  rcases K14M.nil_snoc fs with rfl | ⟨gs, u, rfl⟩
  · have := h.1
    simp at this
  · have e : gs.length = ts.length := by
      have := h.1
      rw [List.length_append, List.length_append] at this
      simpa using this
    refine ⟨gs, u, rfl, ⟨e, fun i v t e1 e2 => ?_⟩, h.2 gs.length u k (by simp) (by rw [e]; simp)⟩
    have l1 := (List.getElem?_eq_some_iff.mp e1).1
    exact h.2 i v t (by rw [List.getElem?_append_left l1]; exact e1) (by rw [List.getElem?_append_left (by omega)]; exact e2)
theorem wd_inj {a b : Bool} : (wdS a = wdS b) ↔ a = b := by
  cases a <;> cases b <;> decide
theorem set_last {α : Type} : ∀ (xs : List α) (x y : α), (xs ++ [x]).set xs.length y = xs ++ [y]
  | [], _, _ => rfl
  | a :: xs, x, y => by
    show a :: ((xs ++ [x]).set xs.length y) = a :: (xs ++ [y])
    rw [set_last xs x y]
theorem ixN_last {n : Nat} : ixN (n + 1) (-1) = some n := by
  unfold ixN
  rw [if_neg (by decide), if_pos (by omega)]
  congr 1
  omega
theorem wd_eq (a b : Bool) : decide (V.str (wdS a) = V.str (wdS b)) = decide (a = b) := by
  cases a <;> cases b <;> decide
section
variable {P : Program} {w : World} {K : PySem.W.Frag} {mg : Str → Option Value} {base : Heap} {ad : Ad}
/-- plain_fills(fills) -/
def spPlainF (ad : Ad) : Sp := fun vs H Q _ => ∃ (t : Addr) (fs : List V) (ts : List RT), vs = [.ref t] ∧ H t = some (.tup fs) ∧ FsAt ad H fs ts ∧ ts.length ≤ 126 ∧ (∀ t ∈ ts, okR t) ∧
  ∀ (l : Addr) (gs : List V) (H' : Hp), H l = none → H' l = some (.lst gs) → FsAt ad H' gs (plainR ts) → L2.Same H H' → Q (.ref l) H'
abbrev st_plain_fills : Stmt := top 24
theorem sc_plain_fills : FnScope ["fills", "kept", "fill"] ["fills"] (defScope st_plain_fills) := ⟨rfl, rfl, rfl, by decide +kernel, rfl, by decide +kernel, by decide +kernel⟩
theorem ok_plain_fills {f : Addr} {fd : FuncData} (F : Fun K "plain_fills" "plain_fills" st_plain_fills f fd) (T : Txt K mg ad) (c_Fill_extent : CalP P w K mg base 1 ad.c_Fill "extent" (spFGet ad fun _ e => e)) (c_Fill_word : CalP P w K mg base 1 ad.c_Fill "word" (spFGet ad fun w _ => .str w)) :
    FnOk P w K mg base CX0 3 f fd ["fills"] (spPlainF ad) := by
  refine F.ok sc_plain_fills (fun vs H Q E h => ?_) (fun cdv A outer s H vs Q E hr h => ?_)
  · obtain (⟨t, fs, ts, rfl, ht, hf, hl, ho, q⟩) := h
    rfl
  · obtain (⟨t, fs, ts, rfl, ht, hf, hl, ho, q⟩) := h
    refine ⟨_, pss_cons (ps_set (i := 1) sc_plain_fills.nd rfl (.inl rfl) (pe_lst pa_nil))
      (pss_cons (ps_for PassesOwn.never rfl (pi_tup (pe_revT (pv 0))) (pg_name (i := 2) sc_plain_fills.nd rfl (Or.inl rfl))
        (pss_cons (ps_if (PW.pt (pw_and (pt_truth (pv 1) (by intro _; rfl)) (pw_and1 (pt_cmpR op_le (pe_p (pv 2) c_Fill_extent hr (by decide) (by rfl)) (pe_p (pe_ix ix_list (pv 1) (pe_un un_neg pe_int) (fun _ _ => rfl)) c_Fill_extent hr (by decide) (by rfl)) (nomark _))))) (pss_one ps_continue) pss_nil)
          (pss_one (ps_if (PW.pt (pw_and (pt_truth (pv 1) (by intro _; rfl)) (pw_and1 (pt_cmpR op_eq (pe_p (pv 2) c_Fill_word hr (by decide) (by rfl)) (pe_p (pe_ix ix_list (pv 1) (pe_un un_neg pe_int) (fun _ _ => rfl)) c_Fill_word hr (by decide) (by rfl)) (nomark _))))) (pss_one (ps_asg (pv 2) (pg_sub (pv 1) (pe_un un_neg pe_int) set_list))) (pss_one (ps_expr (pe_bm PySem.F.plainAttrs_list PySem.F.slot_list_append PySem.F.type_list_append mt_append (pv 1) (pa_cons (pv 2) pa_nil))))))))
      (pss_one (ps_ret (pe_revL (pv 1))))), ?_⟩
    walk_at "go"
    rename_i l hl0 p hp0
    have h0 : upd (upd H l (.lst [])) p (.tup fs.reverse) l = some (.lst []) := by rw [upd_ne (ne_new hp0 upd_same).symm]; exact upd_same
    have sA : L2.Same H (upd (upd H l (.lst [])) p (.tup fs.reverse)) := (same_new hl0).trans (same_new hp0)
    have hfA := (hf.ev (Ev.same sA))
    have hpA : upd (upd H l (.lst [])) p (.tup fs.reverse) p = some (.tup fs.reverse) := upd_same
    generalize upd (upd H l (.lst [])) p (.tup fs.reverse) = HA at h0 sA hfA hpA ⊢
    have npl : p ≠ l := ne_of hpA h0 (by intro z; cases z)
    refine ⟨⟨_, SqT.of hpA⟩, for_it (walk_tup (xs := fs.reverse)) (fun i σ H' => Hold (∃ a gs, σ = [some (.ref t), some (.ref l), a] ∧ H' l = some (.lst gs) ∧ FsAt ad H' gs ((ts.reverse.take i).foldl plS []) ∧ Stay l HA H')) (Hold.mk ⟨_, [], rfl, h0, FsAt.nil, Stay.refl _ _⟩) (fun i σ H1 _ hh => ?_) (fun i y σ H1 H' hi hh hy => ?_) (fun σ H1 hh => ?_)⟩
    · obtain ⟨_, _, _, _, _, st⟩ := hh.out
      exact SqT.of (st _ _ npl hpA)
    · obtain ⟨a, gs, es, hL, hG, st⟩ := hh.out
      clear hh
      subst es
      obtain ⟨rfl, hy⟩ := hy
      rw [List.length_reverse] at hi
      have hr1 := (hfA.stay st h0).rev
      have li : i < ts.reverse.length := by rw [List.length_reverse, ← hf.1]; exact hi
      have et : ts.reverse[i]? = some ts.reverse[i] := List.getElem?_eq_getElem li
      have hF := hr1.2 i y _ hy et
      have e1 : (ts.reverse.take (i + 1)).foldl plS [] = plS ((ts.reverse.take i).foldl plS []) ts.reverse[i] := by
        rw [List.take_add_one, et, List.foldl_append]
        rfl
      generalize ts.reverse[i] = tn at e1 hF et
      have el : ((ts.reverse.take i).foldl plS []).length ≤ 126 := by
        have := (K14M.fold_len (ts.reverse.take i) []).1
        rw [List.length_take, List.length_reverse, List.length_nil] at this
        omega
      generalize (ts.reverse.take i).foldl plS [] = ks at hG e1 el
      rcases K14M.nil_snoc ks with rfl | ⟨ka, k, rfl⟩
      · have : gs = [] := List.length_eq_zero_iff.mp hG.1
        subst this
        obtain ⟨fa, dfa, rfl, hfa⟩ := id hF
        walk_at "go"
        refine ⟨false, .inl ⟨_, SqL.of hL, rfl⟩, iteF ?_⟩
        walk_at "go"
        refine ⟨false, .inl ⟨_, SqL.of hL, rfl⟩, iteF ?_⟩
        walk_at "go"
        refine Hold.mk ⟨_, [V.ref fa], rfl, upd_same, ?_, Stay.trans st stay_upd⟩
        rw [e1]
        exact (FsAt.one hF).stay stay_upd hL
      · obtain ⟨g2, u, rfl, hG2, hu⟩ := hG.split
        rw [K14M.plS_snoc] at e1
        obtain ⟨fa, dfa, rfl, hfa⟩ := id hF
        obtain ⟨c, dc, rfl, hc⟩ := id hu
        have at1 : atI (g2 ++ [V.ref c]) (-1) = some (V.ref c) := atI_last _ _
        have tru : (true : Bool) = !(g2 ++ [V.ref c]).isEmpty := by simp
        walk_at "go"
        refine ⟨true, .inl ⟨_, SqL.of hL, tru⟩, iteT ?_⟩
        walk_at "go"
        by_cases c1 : tn.2 ≤ k.2
        · rw [decide_eq_true c1]
          rw [if_pos c1] at e1
          refine iteT ?_
          walk_at "go"
          exact Hold.mk ⟨_, _, rfl, hL, by rw [e1]; exact hG, st⟩
        rw [decide_eq_false c1]
        rw [if_neg c1] at e1
        refine iteF ?_
        walk_at "go"
        refine ⟨true, .inl ⟨_, SqL.of hL, tru⟩, iteT ?_⟩
        walk_at "go"
        rw [wd_eq]
        by_cases c2 : tn.1 = k.1
        · rw [decide_eq_true c2]
          rw [if_pos c2] at e1
          refine iteT ⟨_, rfl, _, rfl, 1, rfl, l, _, _, g2.length, rfl, rfl, hL, by rw [List.length_append]; exact ixN_last, ?_⟩
          rw [set_last]
          refine Hold.mk ⟨_, _, rfl, upd_same, ?_, Stay.trans st stay_upd⟩
          rw [e1]
          exact (hG2.app (FsAt.one hF)).stay stay_upd hL
        · rw [decide_eq_false c2]
          rw [if_neg c2] at e1
          refine iteF ?_
          walk_at "go"
          refine ⟨line_gt (by rw [hG.1]; omega), ?_⟩
          refine Hold.mk ⟨_, _, rfl, upd_same, ?_, Stay.trans st stay_upd⟩
          rw [e1]
          exact (hG.app (FsAt.one hF)).stay stay_upd hL
    · obtain ⟨a, gs, es, hL, hG, st⟩ := hh.out
      clear hh
      subst es
      rw [List.length_reverse, hf.1, ← List.length_reverse (as := ts), List.take_length] at hG
      have sL : L2.Same H H1 := fun b o e => st b o (ne_of_none e hl0) (sA b o e)
      walk_at "go"
      rename_i r hr0
      have s5 := same_new (o := .lst gs.reverse) hr0
      exact q r _ _ (UL.Same.none sL hr0) upd_same (hG.rev.ev (Ev.same s5)) (sL.trans s5)
end
end K14
set_option Elab.async false
set_option linter.all false
set_option maxRecDepth 100000
set_option maxHeartbeats 4000000


namespace K14
open PySem L2 UL ClX
local macro_rules | `(tactic| walk_at "txt") => `(tactic| first
  | ((with_reducible show PySem.W.kitOne _ (.ref _) (.ref _) = _); first | exact Txt.ks_Work_Fill (by assumption) | exact Txt.ks_Fill_Work (by assumption))
  | ((with_reducible show PySem.W.notFirst _ _ (.ref _) = _); first | exact Txt.nf_Work_Fill (by assumption) | exact Txt.nf_Fill_Work (by assumption))
  | ((with_reducible show L2.Cls _ _); first | exact UL.CIsi.cl (Txt.i_Fill (by assumption)) | exact UL.CIsi.cl (Txt.i_Work (by assumption)))
  | ((with_reducible show UL.CIsi _ _); first | exact Txt.i_Fill (by assumption) | exact Txt.i_Work (by assumption))
  | ((with_reducible show L2.NoAttr _ _ _); first | exact Txt.n_Fill_word (by assumption) | exact Txt.n_Fill_extent (by assumption) | exact Txt.n_Work_fills (by assumption))
  | ((with_reducible show L2.TyX _ _ _ _); first | exact UL.CIsi.ty (Txt.i_Fill (by assumption)) (by walk_at "look") | exact UL.CIsi.ty (Txt.i_Work (by assumption)) (by walk_at "look"))
  | ((with_reducible show PySem.W.kitOne _ (.type _) (.ref _) = _); first | exact ((Txt.k_Fill (by assumption)) _ (by simp)).1 | exact ((Txt.k_Work (by assumption)) _ (by simp)).1)
  | ((with_reducible show _ = PySem.Value.ref _ ∨ _); first | exact .inl rfl | exact .inr ⟨_, rfl, Txt.no_Fill (by assumption)⟩)
  | fail)
open K14M (RT okR plS plainR lastW)
section
variable {P : Program} {w : World} {K : PySem.W.Frag} {mg : Str → Option Value} {base : Heap} {ad : Ad}
/-- len(work) -/
def spWLen (ad : Ad) : Sp := fun vs H Q _ => ∃ v ts, vs = [v] ∧ WkAt ad H v ts ∧ Q (.int (ts.length : Nat)) H
abbrev st_Work_len : Stmt := inClass (top 23) 6
theorem sc_Work_len : FnScope ["self"] ["self"] (defScope st_Work_len) := ⟨rfl, rfl, rfl, by decide +kernel, rfl, by decide +kernel, by decide +kernel⟩
theorem ok_Work_len {f : Addr} {fd : FuncData} (F : Fun K "__len__" "Work.__len__" st_Work_len f fd) (T : Txt K mg ad)  :
    FnOk P w K mg base CX0 1 f fd ["self"] (spWLen ad) := by
  refine F.ok sc_Work_len (fun vs H Q E h => ?_) (fun cdv A outer s H vs Q E hr h => ?_)
  · obtain (⟨v, ts, rfl, ⟨a, dx, tp, fs, rfl, h1, h2, h3, h4, h5⟩, q⟩) := h
    rfl
  · obtain (⟨v, ts, rfl, ⟨a, dx, tp, fs, rfl, h1, h2, h3, h4, h5⟩, q⟩) := h
    refine ⟨_, pss_one (ps_ret (pe_callB call_len_seq (by rfl) T.bi.len (by decide +kernel) (pa_cons (pe_fld (pv 0) rfl) pa_nil))), ?_⟩
    walk_at "go"
    rw [← h3.1] at q
    exact q
/-- work.fills() -/
def spWFills (ad : Ad) : Sp := fun vs H Q _ => ∃ v ts, vs = [v] ∧ WkAt ad H v ts ∧ ∀ (l : Addr) (gs : List V) (H' : Hp), H l = none → H' l = some (.lst gs) → FsAt ad H' gs ts → L2.Same H H' → Q (.ref l) H'
abbrev st_Work_fills : Stmt := inClass (top 23) 1
theorem sc_Work_fills : FnScope ["self"] ["self"] (defScope st_Work_fills) := ⟨rfl, rfl, rfl, by decide +kernel, rfl, by decide +kernel, by decide +kernel⟩
theorem ok_Work_fills {f : Addr} {fd : FuncData} (F : Fun K "fills" "Work.fills" st_Work_fills f fd) (T : Txt K mg ad)  :
    FnOk P w K mg base CX0 1 f fd ["self"] (spWFills ad) := by
  refine F.ok sc_Work_fills (fun vs H Q E h => ?_) (fun cdv A outer s H vs Q E hr h => ?_)
  · obtain (⟨v, ts, rfl, ⟨a, dx, tp, fs, rfl, h1, h2, h3, h4, h5⟩, q⟩) := h
    rfl
  · obtain (⟨v, ts, rfl, ⟨a, dx, tp, fs, rfl, h1, h2, h3, h4, h5⟩, q⟩) := h
    refine ⟨_, pss_one (ps_ret (pe_callTy call_list_of (by rfl) T.bi.list (by decide +kernel) (pa_cons (pe_fld (pv 0) rfl) pa_nil))), ?_⟩
    walk_at "go"
    rename_i l hl
    have s1 := same_new (o := .lst fs) hl
    exact q l fs _ hl upd_same (h3.ev (Ev.same s1)) s1
/-- work.plain() -/
def spWPlain (ad : Ad) : Sp := fun vs H Q _ => ∃ v ts, vs = [v] ∧ WkAt ad H v ts ∧ ∀ (u : V) (H' : Hp), WkAt ad H' u (plainR ts) → L2.Same H H' → Q u H'
abbrev st_Work_plain : Stmt := inClass (top 23) 2
theorem sc_Work_plain : FnScope ["self", "fills"] ["self"] (defScope st_Work_plain) := ⟨rfl, rfl, rfl, by decide +kernel, rfl, by decide +kernel, by decide +kernel⟩
theorem ok_Work_plain {f : Addr} {fd : FuncData} (F : Fun K "plain" "Work.plain" st_Work_plain f fd) (T : Txt K mg ad) (c_plain_fills : Cal P w K mg base 3 "plain_fills" (spPlainF ad)) (m_Work : MakRE P w K mg base 4 "Work" ad.c_Work (spWorkR K ad)) :
    FnOk P w K mg base CX0 6 f fd ["self"] (spWPlain ad) := by
  refine F.ok sc_Work_plain (fun vs H Q E h => ?_) (fun cdv A outer s H vs Q E hr h => ?_)
  · obtain (⟨v, ts, rfl, ⟨a, dx, tp, fs, rfl, h1, h2, h3, h4, h5⟩, q⟩) := h
    rfl
  · obtain (⟨v, ts, rfl, ⟨a, dx, tp, fs, rfl, h1, h2, h3, h4, h5⟩, q⟩) := h
    refine ⟨_, pss_cons (ps_set (i := 1) sc_Work_plain.nd rfl (.inl rfl) (pe_c c_plain_fills hr (by decide) (by rfl) (pa_cons (pe_fld (pv 0) rfl) pa_nil)))
      (pss_cons (ps_if (pt_cmpR op_eq (pe_callB call_len_seq (by rfl) T.bi.len (by decide +kernel) (pa_cons (pv 1) pa_nil)) (pe_callB call_len_seq (by rfl) T.bi.len (by decide +kernel) (pa_cons (pe_fld (pv 0) rfl) pa_nil)) (nomark _)) (pss_one (ps_ret (pv 0))) pss_nil)
      (pss_one (ps_ret (pe_nRSE m_Work px_none hr (by decide) (by rfl) (pv 1))))), ?_⟩
    have hp := K14M.plain_len ts
    have ho := K14M.plain_ok h5
    walk_at "go"
    rename_i l gs H1 hl hL hG s1
    have eg : ((gs.length : Nat) : Int) = ((plainR ts).length : Nat) := by rw [hG.1]
    have ef : ((fs.length : Nat) : Int) = (ts.length : Nat) := by rw [h3.1]
    dsimp only
    rw [eg, ef]
    by_cases c : (plainR ts).length = ts.length
    · rw [c, decide_eq_true rfl]
      refine iteT ?_
      walk_at "go"
      have e := hp.2 c
      rw [e] at q
      exact q _ _ ⟨a, dx, tp, fs, rfl, s1 _ _ h1, s1 _ _ h2, h3.ev (Ev.same s1), h4, h5⟩ s1
    · rw [decide_eq_false (fun z => c (by injection z with z; omega))]
      refine iteF ?_
      walk_at "go"
      rename_i x dx' nx nd_ ne
      exact wkR nx nd_ ne hG (by omega) ho fun H' s hW => ⟨rfl, q _ _ hW (s1.trans s)⟩
/-- work == work -/
theorem fillAt_eq {ad : Ad} {H : Hp} {u v : V} {t s : RT} (h1 : FillAt ad H u (wdS t.1) (.int t.2)) (h2 : FillAt ad H v (wdS s.1) (.int s.2)) : (wdS t.1 = wdS s.1 ∧ t.2 = s.2) ↔ t = s :=
  ⟨fun ⟨a, b⟩ => Prod.ext (wd_inj.mp a) b, fun e => by subst e; exact ⟨rfl, rfl⟩⟩
/-- fill == fill -/
def spFEq (ad : Ad) : Sp := fun vs H Q _ => ∃ (u v : V) (w1 w2 : Str) (e1 e2 : Int), vs = [u, v] ∧ FillAt ad H u w1 (.int e1) ∧ FillAt ad H v w2 (.int e2) ∧ Q (.bl (decide (w1 = w2 ∧ e1 = e2))) H
abbrev st_Fill_eq : Stmt := inClass (top 22) 7
theorem sc_Fill_eq : FnScope ["self", "other"] ["self", "other"] (defScope st_Fill_eq) := ⟨rfl, rfl, rfl, by decide +kernel, rfl, by decide +kernel, by decide +kernel⟩
theorem ok_Fill_eq {f : Addr} {fd : FuncData} (F : Fun K "__eq__" "Fill.__eq__" st_Fill_eq f fd) (T : Txt K mg ad)  :
    FnOk P w K mg base CX0 1 f fd ["self", "other"] (spFEq ad) := by
  refine F.ok sc_Fill_eq (fun vs H Q E h => ?_) (fun cdv A outer s H vs Q E hr h => ?_)
  · obtain (⟨u, v, w1, w2, e1, e2, rfl, ⟨a, dx, rfl, h1⟩, ⟨b, dy, rfl, h2⟩, q⟩) := h
    rfl
  · obtain (⟨u, v, w1, w2, e1, e2, rfl, ⟨a, dx, rfl, h1⟩, ⟨b, dy, rfl, h2⟩, q⟩) := h
    refine ⟨_, pss_one (ps_ret (pe_and (pe_callB call_isi (by rfl) T.bi.isinstance (by decide +kernel) (pa_cons (pv 1) (pa_cons (pe_glob (v := .ref ad.c_Fill) (by rfl) T.g_Fill rfl) pa_nil))) (pe_and (pe_cmpR op_eq (pe_fld (pv 0) rfl) (pe_fld (pv 1) rfl) (nomark _)) (pe_one (pe_cmpR op_eq (pe_fld (pv 0) rfl) (pe_fld (pv 1) rfl) (nomark _)))))), ?_⟩
    walk_at "go"
    have eq : decide (w1 = w2 ∧ e1 = e2) = (decide (V.str w1 = V.str w2) && decide (V.int e1 = V.int e2)) := by by_cases c1 : w1 = w2 <;> by_cases c2 : e1 = e2 <;> simp [c1, c2]
    rw [eq] at q
    cases hh : decide (V.str w1 = V.str w2) with
    | true =>
      rw [hh] at q
      refine iteT ?_
      walk_at "go"
      exact q
    | false =>
      rw [hh] at q
      exact iteF q
/-- work + work, work + fill -/
def spWAdd (K : PySem.W.Frag) (ad : Ad) : Sp := fun vs H Q E => ∃ v u ts us, vs = [v, u] ∧ WkAt ad H v ts ∧ (WkAt ad H u us ∨ (∃ t, us = [t] ∧ okR t ∧ FillAt ad H u (wdS t.1) (.int t.2)) ∨ (us = [] ∧ FillAt ad H u "free" .non)) ∧
  ((ts.length + us.length ≤ 126 ∧ ∀ (r : V) (H' : Hp), WkAt ad H' r (ts ++ us) → L2.Same H H' → Q r H') ∨
    (126 < ts.length + us.length ∧ ∀ d H', H d = none → H' d = some (.xd [("limit", .int 126), ("what", .str "fills")]) → L2.Same H H' → E (.ref ad.c_TooMany) (some d) H'))
theorem wkM {H H1 : Hp} {x dx : Addr} {ws : List V} {vs : List RT} {Q : VK} {E : XK} (nx : H1 x = none) (nd_ : H1 dx = none) (ne : dx ≠ x) (hw : FsAt ad H1 ws vs) (hl : vs.length ≤ 252) (ho : ∀ t ∈ vs, okR t) (s0 : L2.Same H H1)
    (hk : (vs.length ≤ 126 ∧ ∀ (r : V) (H' : Hp), WkAt ad H' r vs → L2.Same H H' → Q r H') ∨ (126 < vs.length ∧ ∀ d H', H d = none → H' d = some (.xd [("limit", .int 126), ("what", .str "fills")]) → L2.Same H H' → E (.ref ad.c_TooMany) (some d) H')) :
    spWorkR K ad (.ref x :: ws) (upd (upd H1 dx (.own x)) x (.ins ad.c_Work dx [])) (fun v H2 => v = V.non ∧ Q (.ref x) H2) E := by
  rcases hk with ⟨c, k⟩ | ⟨c, kE⟩
  · exact wkR nx nd_ ne hw c ho fun H' s hW => ⟨rfl, k _ _ hW (s0.trans s)⟩
  · have s1 : L2.Same H1 (upd H1 dx (.own x)) := same_new nd_
    have n2 : upd H1 dx (.own x) x = none := by rw [upd_ne ne.symm]; exact nx
    have s2 := s1.trans (same_new (o := .ins ad.c_Work dx []) n2)
    have e := hw.1
    unfold spWorkR
    exact ⟨x, dx, ws, ws.length, rfl, by omega, upd_same, fun i v a b => (hw.good v (List.mem_of_getElem? b)).ev (Ev.same s2), .inr (.inl ⟨rfl, by omega, fun d H' hd hf st => kE d H' (UL.Same.none (s0.trans s2) hd) hf ((s0.trans s2).trans st)⟩)⟩
abbrev st_Work_add : Stmt := inClass (top 23) 5
theorem sc_Work_add : FnScope ["self", "other", "more", "fills"] ["self", "other"] (defScope st_Work_add) := ⟨rfl, rfl, rfl, by decide +kernel, rfl, by decide +kernel, by decide +kernel⟩
theorem ok_Work_add {f : Addr} {fd : FuncData} (F : Fun K "__add__" "Work.__add__" st_Work_add f fd) (T : Txt K mg ad) (c_Fill_is_free : CalP P w K mg base 1 ad.c_Fill "is_free" (spFGet ad fun _ e => .bl (decide (e = .non)))) (e_InvalidWork : MakE P w K mg base 1 "InvalidWork" ad.c_InvalidWork ["position"]) (m_Work : MakRE P w K mg base 4 "Work" ad.c_Work (spWorkR K ad)) :
    FnOk P w K mg base (L2.CX P w) 6 f fd ["self", "other"] (spWAdd K ad) := by
  refine F.okX sc_Work_add (fun vs H Q E h => ?_) (fun cdv A outer s H vs Q E hr h => ?_)
  · obtain (⟨v, u, ts, us, rfl, ⟨a, dx, tp, fs, rfl, h1, h2, h3, h4, h5⟩, hu, hk⟩) := h
    rfl
  · obtain (⟨v, u, ts, us, rfl, ⟨a, dx, tp, fs, rfl, h1, h2, h3, h4, h5⟩, hu, hk⟩) := h
    refine ⟨_, pss_cons (ps_if (pt_val (pe_callB call_isi (by rfl) T.bi.isinstance (by decide +kernel) (pa_cons (pv 1) (pa_cons (pe_glob (v := .ref ad.c_Work) (by rfl) T.g_Work rfl) pa_nil)))) (pss_one (ps_set (i := 2) sc_Work_add.nd rfl (.inl rfl) (pe_fld (pv 1) rfl))) (pss_one (ps_if (pt_val (pe_callB call_isi (by rfl) T.bi.isinstance (by decide +kernel) (pa_cons (pv 1) (pa_cons (pe_glob (v := .ref ad.c_Fill) (by rfl) T.g_Fill rfl) pa_nil)))) (pss_one (ps_set (i := 2) sc_Work_add.nd rfl (.inl rfl) (pe_ifExp (pt_val (pe_p (pv 1) c_Fill_is_free hr (by decide) (by rfl))) (pe_tup (pa_nil)) (pe_tup (pa_cons (pv 1) pa_nil))))) (pss_one (ps_raise rfl (takes_of rfl rfl rfl rfl) (pmk_E e_InvalidWork hr (by decide) (by decide) (by rfl) (pa_cons pe_non pa_nil)))))))
      (pss_cons (ps_set (i := 3) sc_Work_add.nd rfl (.inl rfl) (pe_op op_catS (pe_fld (pv 0) rfl) (pv 2)))
      (pss_one (ps_ret (pe_nRSE m_Work (px_def rfl rfl rfl rfl) hr (by decide) (by rfl) (pv 3))))), ?_⟩
    rcases hu with ⟨b, dy, tq, gs, rfl, g1, g2, g3, g4, g5⟩ | ⟨t, rfl, ot, ⟨b, dy, rfl, g1⟩⟩ | ⟨rfl, ⟨b, dy, rfl, g1⟩⟩
    · walk_at "go"
      have hl : fs.length + gs.length ≤ 252 := by rw [h3.1, g3.1]; omega
      refine ⟨line_ge (by omega), fun p H1 s1 hp => ?_⟩
      walk_at "go"
      rename_i x dx' nx nd_ ne
      exact wkM (Q := Q) nx nd_ ne ((h3.app g3).ev (Ev.same s1)) (by rw [List.length_append]; omega) (fun t ht => (List.mem_append.mp ht).elim (h5 t) (g5 t)) s1 (by rw [List.length_append]; exact hk)
    · walk_at "go"
      refine ⟨.ref b, wdS t.1, .int t.2, rfl, ⟨b, dy, rfl, g1⟩, false, rfl, iteF ?_⟩
      walk_at "go"
      rename_i p0 hp0
      have s0 := same_new (o := .tup [V.ref b]) hp0
      have hl : fs.length + [V.ref b].length ≤ 252 := by rw [h3.1]; show ts.length + 1 ≤ 252; omega
      refine ⟨line_ge (by omega), fun p H1 s1 hp => ?_⟩
      walk_at "go"
      rename_i x dx' nx nd_ ne
      have s2 := s0.trans s1
      exact wkM (Q := Q) nx nd_ ne ((h3.app (FsAt.one ⟨b, dy, rfl, g1⟩)).ev (Ev.same s2)) (by rw [List.length_append]; show ts.length + 1 ≤ 252; omega) (fun u hu => (List.mem_append.mp hu).elim (h5 u) (fun z => by rw [List.mem_singleton.mp z]; exact ot)) s2 (by rw [List.length_append]; exact hk)
    · walk_at "go"
      refine ⟨.ref b, "free", .non, rfl, ⟨b, dy, rfl, g1⟩, true, rfl, iteT ?_⟩
      walk_at "go"
      rename_i p0 hp0
      have s0 := same_new (o := .tup []) hp0
      have hl : fs.length + ([] : List V).length ≤ 252 := by rw [h3.1]; show ts.length + 0 ≤ 252; omega
      refine ⟨line_ge (by omega), fun p H1 s1 hp => ?_⟩
      walk_at "go"
      rename_i x dx' nx nd_ ne
      have s2 := s0.trans s1
      exact wkM (Q := Q) nx nd_ ne ((h3.app FsAt.nil).ev (Ev.same s2)) (by rw [List.length_append]; show ts.length + 0 ≤ 252; omega) (fun u hu => (List.mem_append.mp hu).elim (h5 u) (fun z => by cases z)) s2 (by rw [List.length_append]; exact hk)
end
end K14
set_option Elab.async false
set_option linter.all false
set_option maxRecDepth 100000
set_option maxHeartbeats 4000000


namespace K14
open PySem L2 UL ClX
local macro_rules | `(tactic| walk_at "txt") => `(tactic| first
  | ((with_reducible show PySem.W.kitOne _ (.ref _) (.ref _) = _); first | exact Txt.ks_Work_Fill (by assumption) | exact Txt.ks_Fill_Work (by assumption))
  | ((with_reducible show PySem.W.notFirst _ _ (.ref _) = _); first | exact Txt.nf_Work_Fill (by assumption) | exact Txt.nf_Fill_Work (by assumption))
  | ((with_reducible show L2.Cls _ _); first | exact UL.CIsi.cl (Txt.i_Fill (by assumption)) | exact UL.CIsi.cl (Txt.i_Work (by assumption)))
  | ((with_reducible show UL.CIsi _ _); first | exact Txt.i_Fill (by assumption) | exact Txt.i_Work (by assumption))
  | ((with_reducible show L2.NoAttr _ _ _); first | exact Txt.n_Fill_word (by assumption) | exact Txt.n_Fill_extent (by assumption) | exact Txt.n_Work_fills (by assumption))
  | ((with_reducible show L2.TyX _ _ _ _); first | exact UL.CIsi.ty (Txt.i_Fill (by assumption)) (by walk_at "look") | exact UL.CIsi.ty (Txt.i_Work (by assumption)) (by walk_at "look"))
  | ((with_reducible show PySem.W.kitOne _ (.type _) (.ref _) = _); first | exact ((Txt.k_Fill (by assumption)) _ (by simp)).1 | exact ((Txt.k_Work (by assumption)) _ (by simp)).1)
  | ((with_reducible show _ = PySem.Value.ref _ ∨ _); first | exact .inl rfl | exact .inr ⟨_, rfl, Txt.no_Fill (by assumption)⟩)
  | fail)
open K14M (RT okR plS plainR lastW upTo upTo_len upTo_get bitOf stepB rowB rowB_len rowB_get overB)
def lastEnd (w n : Nat) (us : List (Bool × Int)) : Nat := us.foldr (fun t d => max d (min t.2.toNat n)) w
theorem lastEnd_ge (w n : Nat) : ∀ us, w ≤ lastEnd w n us
  | [] => Nat.le_refl _
  | t :: us => by
    show w ≤ max (lastEnd w n us) (min t.2.toNat n)
    have := lastEnd_ge w n us
    omega
theorem over_known {w n : Nat} {xs : List Bt} {j : Nat} (hj : j < n) (hw : w ≤ j) : ∀ (us : List (Bool × Int)) (x y : Bt), j < lastEnd w n us → overB w xs us j x = overB w xs us j y
  | [], x, y, h => absurd (show j < w from h) (by omega)
  | t :: us, x, y, h => by
    have h' : j < max (lastEnd w n us) (min t.2.toNat n) := h
    show overB w xs us j (if j < t.2.toNat then _ else x) = overB w xs us j (if j < t.2.toNat then _ else y)
    by_cases c : j < lastEnd w n us
    · exact over_known hj hw us _ _ c
    · rw [if_pos (by omega), if_pos (by omega)]
theorem over_free {w n : Nat} {xs : List Bt} {j : Nat} (hj : j < n) : ∀ (us : List (Bool × Int)) (x : Bt), lastEnd w n us ≤ j → overB w xs us j x = x
  | [], x, _ => rfl
  | t :: us, x, h => by
    have h' : max (lastEnd w n us) (min t.2.toNat n) ≤ j := h
    show overB w xs us j (if j < t.2.toNat then _ else x) = x
    rw [if_neg (by omega)]
    exact over_free hj us x (by omega)
theorem rowB_keep {w : Nat} (hw : 1 ≤ w) {t : Bool × Int} {us : List (Bool × Int)} {xs : List Bt} (h : min t.2.toNat xs.length ≤ lastEnd w xs.length us) : rowB w (t :: us) xs = rowB w us xs := by
  refine List.ext_getElem? fun j => ?_
  rw [rowB_get hw, rowB_get hw]
  by_cases l : j < xs.length
  · rw [List.getElem?_eq_getElem l]
    show some (if w ≤ j then overB w xs us j (if j < t.2.toNat then _ else xs[j]) else xs[j]) = some (if w ≤ j then overB w xs us j xs[j] else xs[j])
    by_cases c : w ≤ j
    · rw [if_pos c, if_pos c]
      by_cases d : j < lastEnd w xs.length us
      · rw [over_known l c us _ xs[j] d]
      · rw [if_neg (by omega)]
    · rw [if_neg c, if_neg c]
  · rw [List.getElem?_eq_none (by omega)]
    rfl
theorem rowB_more {w : Nat} (hw : 1 ≤ w) {t : Bool × Int} {us : List (Bool × Int)} {xs : List Bt} (h : lastEnd w xs.length us < min t.2.toNat xs.length) :
    rowB w (t :: us) xs = (rowB w us xs).take (lastEnd w xs.length us) ++ List.replicate (min t.2.toNat xs.length - lastEnd w xs.length us) (bitOf w t.1 xs) ++ (rowB w us xs).drop (min t.2.toNat xs.length) := by
  have g := lastEnd_ge w xs.length us
  have hl := rowB_len w us xs
  refine List.ext_getElem? fun j => ?_
  rw [rowB_get hw]
  by_cases l : j < xs.length
  · rw [List.getElem?_eq_getElem l]
    have e0 : (rowB w us xs)[j]? = some (if w ≤ j then overB w xs us j xs[j] else xs[j]) := by
      rw [rowB_get hw, List.getElem?_eq_getElem l]
      rfl
    show some (if w ≤ j then overB w xs us j (if j < t.2.toNat then _ else xs[j]) else xs[j]) = _
    by_cases c1 : j < lastEnd w xs.length us
    · rw [List.append_assoc, List.getElem?_append_left (by rw [List.length_take]; omega), List.getElem?_take_of_lt c1, e0]
      by_cases c : w ≤ j
      · rw [if_pos c, if_pos c, over_known l c us _ xs[j] c1]
      · rw [if_neg c, if_neg c]
    · by_cases c2 : j < min t.2.toNat xs.length
      · rw [List.append_assoc, List.getElem?_append_right (by rw [List.length_take]; omega), List.getElem?_append_left (by rw [List.length_take, List.length_replicate]; omega), List.getElem?_replicate, List.length_take, if_pos (by omega), if_pos (by omega), if_pos (by omega), over_free l us _ (by omega)]
      · rw [if_neg (show ¬ j < t.2.toNat by omega), List.getElem?_append_right (by rw [List.length_append, List.length_take, List.length_replicate]; omega), List.length_append, List.length_take, List.length_replicate, List.getElem?_drop,
          show min t.2.toNat xs.length + (j - (min (lastEnd w xs.length us) (rowB w us xs).length + (min t.2.toNat xs.length - lastEnd w xs.length us))) = j by omega, e0]
  · rw [List.getElem?_eq_none (by omega)]
    refine (List.getElem?_eq_none ?_).symm
    rw [List.length_append, List.length_append, List.length_take, List.length_replicate, List.length_drop]
    omega
theorem lastEnd_keep {w n : Nat} {t : Bool × Int} {us : List (Bool × Int)} (h : min t.2.toNat n ≤ lastEnd w n us) : lastEnd w n (t :: us) = lastEnd w n us := by
  show max (lastEnd w n us) (min t.2.toNat n) = _
  omega
theorem lastEnd_more {w n : Nat} {t : Bool × Int} {us : List (Bool × Int)} (h : lastEnd w n us < min t.2.toNat n) : lastEnd w n (t :: us) = min t.2.toNat n := by
  show max (lastEnd w n us) (min t.2.toNat n) = _
  omega
theorem lastEnd_le {w n m : Nat} (hw : w ≤ m) (hn : n ≤ m) : ∀ us, lastEnd w n us ≤ m
  | [] => hw
  | t :: us => by
    show max (lastEnd w n us) (min t.2.toNat n) ≤ m
    have := lastEnd_le hw hn us
    omega
theorem back_more {α : Type} {ts : List α} {i : Nat} {t : α} (h : ts.reverse[i]? = some t) : (ts.reverse.take (i + 1)).reverse = t :: (ts.reverse.take i).reverse := by
  rw [List.take_add_one, h, List.reverse_append]
  rfl
theorem back_all {α : Type} (ts : List α) : (ts.reverse.take ts.length).reverse = ts := by
  rw [List.take_of_length_le (by rw [List.length_reverse]; omega), List.reverse_reverse]

theorem bV_at {xs : List Bt} {i : Nat} (h : i < xs.length) : (xs.map bV)[i]? = some (bV xs[i]) := by rw [List.getElem?_map, List.getElem?_eq_getElem h]; rfl
theorem sign_w (b : Bool) : decide (V.str (wdS b) = V.str "sign") = b := by cases b <;> decide
theorem sl_eq (X : List Bt) (n m : Nat) (b : Bt) : List.take ((n : Nat) : Int).toNat (X.map bV) ++ (List.replicate (((m : Nat) : Int) - ((n : Nat) : Int)).toNat [bV b]).flatten ++ List.drop ((m : Nat) : Int).toNat (X.map bV) = (X.take n ++ List.replicate (m - n) b ++ X.drop m).map bV := by
  rw [show (((m : Nat) : Int) - ((n : Nat) : Int)).toNat = m - n by omega, Int.toNat_natCast, Int.toNat_natCast, List.map_append, List.map_append, List.map_take, List.map_drop, List.map_replicate]
  simp [List.flatten_replicate_singleton]
section
variable {P : Program} {w : World} {K : PySem.W.Frag} {mg : Str → Option Value} {base : Heap} {ad : Ad}
/-- filled(fills, row, width) -/
def spFilled (ad : Ad) : Sp := fun vs H Q _ => ∃ (t r : Addr) (fs : List V) (ts : List RT) (xs : List Bt) (wi : Nat), vs = [.ref t, .ref r, .int (wi : Nat)] ∧ H t = some (.tup fs) ∧ FsAt ad H fs ts ∧ (∀ t ∈ ts, okR t) ∧ ts.length ≤ 126 ∧
  H r = some (.lst (xs.map bV)) ∧ xs.length ≤ 128 ∧ 2 ≤ wi ∧ wi ≤ 128 ∧
  ∀ (l : Addr) (H' : Hp), H l = none → H' l = some (.lst ((rowB wi ts xs).map bV)) → L2.Same H H' → Q (.ref l) H'
abbrev st_filled : Stmt := top 25
theorem sc_filled : FnScope ["fills", "row", "width", "made", "done", "fill", "end"] ["fills", "row", "width"] (defScope st_filled) := ⟨rfl, rfl, rfl, by decide +kernel, rfl, by decide +kernel, by decide +kernel⟩
theorem ok_filled {f : Addr} {fd : FuncData} (F : Fun K "filled" "filled" st_filled f fd) (T : Txt K mg ad) (c_Fill_extent : CalP P w K mg base 1 ad.c_Fill "extent" (spFGet ad fun _ e => e)) (c_Fill_word : CalP P w K mg base 1 ad.c_Fill "word" (spFGet ad fun w _ => .str w)) :
    FnOk P w K mg base CX0 3 f fd ["fills", "row", "width"] (spFilled ad) := by
  refine F.ok sc_filled (fun vs H Q E h => ?_) (fun cdv A outer s H vs Q E hr h => ?_)
  · obtain (⟨t, r, fs, ts, xs, wi, rfl, ht, hf, ho, hl, hrow, hx, w0, w1, q⟩) := h
    rfl
  · obtain (⟨t, r, fs, ts, xs, wi, rfl, ht, hf, ho, hl, hrow, hx, w0, w1, q⟩) := h
    refine ⟨_, pss_cons (ps_set (i := 3) sc_filled.nd rfl (.inl rfl) (pe_callTy call_list_of (by rfl) T.bi.list (by decide +kernel) (pa_cons (pv 1) pa_nil)))
      (pss_cons (ps_set (i := 4) sc_filled.nd rfl (.inl rfl) (pv 2))
      (pss_cons (ps_for PassesOwn.never rfl (pi_tup (pe_revT (pv 0))) (pg_name (i := 5) sc_filled.nd rfl (Or.inl rfl))
        (pss_cons (ps_set (i := 6) sc_filled.nd rfl (.inl rfl) (pe_ifExp (pt_cmpR op_lt (pe_p (pv 5) c_Fill_extent hr (by decide) (by rfl)) (pe_callB call_len_seq (by rfl) T.bi.len (by decide +kernel) (pa_cons (pv 3) pa_nil)) (nomark _)) (pe_p (pv 5) c_Fill_extent hr (by decide) (by rfl)) (pe_callB call_len_seq (by rfl) T.bi.len (by decide +kernel) (pa_cons (pv 3) pa_nil))))
          (pss_one (ps_if (pt_cmpR op_gt (pv 6) (pv 4) (nomark _)) (pss_cons (ps_asg (pe_op op_rep (pe_lst (pa_cons (pe_ifExp (pt_cmpR op_eq (pe_p (pv 5) c_Fill_word hr (by decide) (by rfl)) (pe_gl (by rfl) T.v_SIGN) (nomark _)) (pe_ix ix_list (pv 3) (pe_op op_sub (pv 2) pe_int) (fun _ _ => rfl)) pe_int) pa_nil)) (pe_op op_sub (pv 6) (pv 4))) (pg_slset (pv 3) (pv 4) (pv 6)))
              (pss_one (ps_set (i := 4) sc_filled.nd rfl (.inl rfl) (pv 6)))) pss_nil))))
      (pss_one (ps_ret (pv 3))))), ?_⟩
    walk_at "go"
    rename_i L hL0 p hp0
    have h0 : upd (upd H L (.lst (xs.map bV))) p (.tup fs.reverse) L = some (.lst (xs.map bV)) := by rw [upd_ne (ne_new hp0 upd_same).symm]; exact upd_same
    have sA : L2.Same H (upd (upd H L (.lst (xs.map bV))) p (.tup fs.reverse)) := (same_new hL0).trans (same_new hp0)
    have hfA := (hf.ev (Ev.same sA))
    have hpA : upd (upd H L (.lst (xs.map bV))) p (.tup fs.reverse) p = some (.tup fs.reverse) := upd_same
    generalize upd (upd H L (.lst (xs.map bV))) p (.tup fs.reverse) = HA at h0 sA hfA hpA ⊢
    have npl : p ≠ L := ne_of hpA h0 (by intro z; cases z)
    refine ⟨⟨_, SqT.of hpA⟩, for_it (walk_tup (xs := fs.reverse)) (fun i σ H' => Hold (∃ z u, σ = [some (.ref t), some (.ref r), some (.int (wi : Nat)), some (.ref L), some (.int (lastEnd wi xs.length (ts.reverse.take i).reverse : Nat)), z, u] ∧ H' L = some (.lst ((rowB wi (ts.reverse.take i).reverse xs).map bV)) ∧ Stay L HA H')) (Hold.mk ⟨_, _, rfl, h0, Stay.refl _ _⟩) (fun i σ H1 _ hh => ?_) (fun i y σ H1 H' hi hh hy => ?_) (fun σ H1 hh => ?_)⟩
    · obtain ⟨_, _, _, _, st⟩ := hh.out
      exact SqT.of (st _ _ npl hpA)
    · obtain ⟨z, u, es, hM, st⟩ := hh.out
      clear hh
      subst es
      obtain ⟨rfl, hy⟩ := hy
      rw [List.length_reverse] at hi
      have hr1 := (hfA.stay st h0).rev
      have li : i < ts.reverse.length := by rw [List.length_reverse, ← hf.1]; exact hi
      have et : ts.reverse[i]? = some ts.reverse[i] := List.getElem?_eq_getElem li
      have hF := hr1.2 i y _ hy et
      have hok : okR ts.reverse[i] := ho _ (List.mem_reverse.mp (List.getElem_mem li))
      have hb := back_more et
      generalize ts.reverse[i] = tn at hb hF et hok
      generalize (ts.reverse.take i).reverse = us at hM hb
      obtain ⟨fa, dfa, rfl, hfa⟩ := id hF
      have hlen := rowB_len wi us xs
      have g := lastEnd_ge wi xs.length us
      have g2 := lastEnd_le (w := wi) (n := xs.length) (m := 200) (by omega) (by omega) us
      have hll : (((rowB wi us xs).map bV).length : Int) = ((xs.length : Nat) : Int) := by rw [List.length_map, hlen]
      obtain ⟨n0, n1⟩ := hok
      walk_at "go"
      dsimp only
      rw [hll]
      by_cases c : tn.2 < ((xs.length : Nat) : Int)
      case' pos =>
        rw [decide_eq_true c]
        refine iteT ?_
        walk_at "go"
        dsimp only
        rw [show tn.2 = ((min tn.2.toNat xs.length : Nat) : Int) by omega]
      case' neg =>
        rw [decide_eq_false c]
        refine iteF ?_
        walk_at "go"
        dsimp only
        rw [hll, show ((xs.length : Nat) : Int) = ((min tn.2.toNat xs.length : Nat) : Int) by omega]
      all_goals
        rw [hb]
        by_cases c2 : lastEnd wi xs.length us < min tn.2.toNat xs.length
        · rw [decide_eq_true (show ((lastEnd wi xs.length us : Nat) : Int) < ((min tn.2.toNat xs.length : Nat) : Int) by omega)]
          rw [lastEnd_more c2, rowB_more (by omega) c2]
          refine iteT ?_
          walk_at "go"
          dsimp only
          rw [sign_w]
          cases hs : tn.1 with
          | true =>
            have hwi : wi ≤ xs.length := by omega
            have at1 : atI ((rowB wi us xs).map bV) (((wi : Nat) : Int) - 1) = some (bV (bitOf wi true xs)) := by
              have hb2 : bitOf wi true xs = xs[wi - 1] := by
                show (xs[wi - 1]?).getD none = _
                rw [List.getElem?_eq_getElem (by omega)]
                rfl
              have hg : ((rowB wi us xs).map bV)[wi - 1]? = some (bV (bitOf wi true xs)) := by
                rw [List.getElem?_map, rowB_get (by omega), List.getElem?_eq_getElem (show wi - 1 < xs.length by omega)]
                show some (bV (if wi ≤ wi - 1 then _ else xs[wi - 1])) = _
                rw [if_neg (by omega), hb2]
              rw [show ((wi : Nat) : Int) - 1 = ((wi - 1 : Nat) : Int) by omega]
              exact atI_nat hg
            refine iteT ?_
            walk_at "go"
            rename_i p1 hp1 p2 hp2
            refine Hold.mk ⟨_, _, rfl, ?_, Stay.trans st (Stay.trans (UL.Same.stay ((same_new hp1).trans (same_new hp2)) L) stay_upd)⟩
            rw [upd_same]
            exact congrArg (fun l => some (HO.lst l)) (sl_eq (rowB wi us xs) (lastEnd wi xs.length us) (min tn.2.toNat xs.length) (bitOf wi true xs))
          | false =>
            refine iteF ?_
            walk_at "go"
            rename_i p1 hp1 p2 hp2
            refine Hold.mk ⟨_, _, rfl, ?_, Stay.trans st (Stay.trans (UL.Same.stay ((same_new hp1).trans (same_new hp2)) L) stay_upd)⟩
            rw [upd_same]
            exact congrArg (fun l => some (HO.lst l)) (sl_eq (rowB wi us xs) (lastEnd wi xs.length us) (min tn.2.toNat xs.length) (bitOf wi false xs))
        · rw [decide_eq_false (show ¬ ((lastEnd wi xs.length us : Nat) : Int) < ((min tn.2.toNat xs.length : Nat) : Int) by omega)]
          rw [lastEnd_keep (by omega), rowB_keep (by omega) (by omega)]
          refine iteF ?_
          exact Hold.mk ⟨_, _, rfl, hM, st⟩
    · obtain ⟨z, u, es, hM, st⟩ := hh.out
      clear hh
      subst es
      rw [List.length_reverse, hf.1, back_all] at hM
      have sL : L2.Same H H1 := fun b o e => st b o (ne_of_none e hL0) (sA b o e)
      walk_at "go"
      exact q L H1 hL0 hM sL
end
end K14
set_option Elab.async false
set_option linter.all false
set_option maxRecDepth 100000
set_option maxHeartbeats 4000000


namespace K14
open PySem L2 UL ClX
local macro_rules | `(tactic| walk_at "txt") => `(tactic| first
  | ((with_reducible show PySem.W.kitOne _ (.ref _) (.ref _) = _); first | exact Txt.ks_Work_Fill (by assumption) | exact Txt.ks_Fill_Work (by assumption))
  | ((with_reducible show PySem.W.notFirst _ _ (.ref _) = _); first | exact Txt.nf_Work_Fill (by assumption) | exact Txt.nf_Fill_Work (by assumption))
  | ((with_reducible show L2.Cls _ _); first | exact UL.CIsi.cl (Txt.i_Fill (by assumption)) | exact UL.CIsi.cl (Txt.i_Work (by assumption)))
  | ((with_reducible show UL.CIsi _ _); first | exact Txt.i_Fill (by assumption) | exact Txt.i_Work (by assumption))
  | ((with_reducible show L2.NoAttr _ _ _); first | exact Txt.n_Fill_word (by assumption) | exact Txt.n_Fill_extent (by assumption) | exact Txt.n_Work_fills (by assumption))
  | ((with_reducible show L2.TyX _ _ _ _); first | exact UL.CIsi.ty (Txt.i_Fill (by assumption)) (by walk_at "look") | exact UL.CIsi.ty (Txt.i_Work (by assumption)) (by walk_at "look"))
  | ((with_reducible show PySem.W.kitOne _ (.type _) (.ref _) = _); first | exact ((Txt.k_Fill (by assumption)) _ (by simp)).1 | exact ((Txt.k_Work (by assumption)) _ (by simp)).1)
  | ((with_reducible show _ = PySem.Value.ref _ ∨ _); first | exact .inl rfl | exact .inr ⟨_, rfl, Txt.no_Fill (by assumption)⟩)
  | fail)
open K14M (RT okR plS plainR lastW rowB)
section
variable {P : Program} {w : World} {K : PySem.W.Frag} {mg : Str → Option Value} {base : Heap} {ad : Ad}
def bitD (d : PyData) : Bool := (match d with | .none => true | _ => false) || betD 0 1 d
def spBit (K : PySem.W.Frag) : Sp := fun vs H Q _ => ∃ (v : V) (d : PyData), vs = [v] ∧ Vd K H v d ∧ Q (.bl (bitD d)) H
abbrev st_is_bit : Stmt := top 5
theorem sc_is_bit : FnScope ["value"] ["value"] (defScope st_is_bit) := ⟨rfl, rfl, rfl, by decide +kernel, rfl, by decide +kernel, by decide +kernel⟩
theorem ok_is_bit {f : Addr} {fd : FuncData} (F : Fun K "is_bit" "is_bit" st_is_bit f fd) (T : Txt K mg ad) (c_is_between : Cal P w K mg base 1 "is_between" (spBetw K)) :
    FnOk P w K mg base CX0 2 f fd ["value"] (spBit K) := by
  refine F.ok sc_is_bit (fun vs H Q E h => ?_) (fun cdv A outer s H vs Q E hr h => ?_)
  · obtain (⟨v, d, rfl, hv, q⟩) := h
    rfl
  · obtain (⟨v, d, rfl, hv, q⟩) := h
    refine ⟨_, pss_one (ps_ret (pe_or (pe_cmpR op_isN (pv 0) pe_non (nomark _)) (pe_one (pe_c c_is_between hr (by decide) (by rfl) (pa_cons (pv 0) (pa_cons pe_int (pa_cons pe_int pa_nil))))))), ?_⟩
    by_cases hn : v = .non
    · subst hn
      cases hv
      walk_at "go"
      exact q
    · have hd : decide (v = V.non) = false := decide_eq_false hn
      have ha : Any K H v d := .inl hv
      have eb : bitD d = betD 0 1 d := by
        cases hv <;> first | rfl | exact absurd rfl hn
      rw [eb] at q
      walk_at "go"
      exact q
def isL : PyData → Bool
  | .list _ => true
  | .tuple _ => true
  | _ => false
/-- whether it is passed where a list is wanted -/
def spIsList (K : PySem.W.Frag) : Sp := fun vs H Q _ => ∃ (v : V) (t : Value) (b1 b2 : Bool), vs = [v] ∧ TyX K H v t ∧ PySem.W.kitOne K t (.type "list") = some b1 ∧ PySem.W.kitOne K t (.type "tuple") = some b2 ∧ ∀ H', L2.Same H H' → Q (.bl (b1 || b2)) H'
abbrev st_is_list : Stmt := top 4
theorem sc_is_list : FnScope ["value"] ["value"] (defScope st_is_list) := ⟨rfl, rfl, rfl, by decide +kernel, rfl, by decide +kernel, by decide +kernel⟩
theorem ok_is_list {f : Addr} {fd : FuncData} (F : Fun K "is_list" "is_list" st_is_list f fd) (T : Txt K mg ad)  :
    FnOk P w K mg base CX0 1 f fd ["value"] (spIsList K) := by
  refine F.ok sc_is_list (fun vs H Q E h => ?_) (fun cdv A outer s H vs Q E hr h => ?_)
  · obtain (⟨v, t, b1, b2, rfl, hv, e1, e2, q⟩) := h
    rfl
  · obtain (⟨v, t, b1, b2, rfl, hv, e1, e2, q⟩) := h
    refine ⟨_, pss_one (ps_ret (pe_callB call_isiT (by rfl) T.bi.isinstance (by decide +kernel) (pa_cons (pv 0) (pa_cons (pe_tup (pa_cons (pe_bltn (v := .ty "list") (by rfl) T.bi.list (by decide +kernel) rfl) (pa_cons (pe_bltn (v := .ty "tuple") (by rfl) T.bi.tuple (by decide +kernel) rfl) pa_nil))) pa_nil)))), ?_⟩
    walk_at "go"
    rename_i p1 hp1
    have s1 := same_new (o := .tup [.ty "list", .ty "tuple"]) hp1
    refine ⟨v, p1, [.ty "list", .ty "tuple"], t, [.type "list", .type "tuple"], b1 || b2, rfl, upd_same, .cons (.ty _) (.cons (.ty _) .nil), TyX.ev hv (Ev.same s1), ?_, q _ s1⟩
    exact kitAny_cons e1 (fun h => kitAny_cons e2 (fun h' => by rw [h, h']; rfl) (fun h' => by rw [h']; simp)) (fun h => by rw [h]; rfl)
theorem bitD_b {b : Bt} : bitD (bD b) = true := by rcases b with _ | _ | _ <;> rfl
theorem vd_b {K : PySem.W.Frag} {H : Hp} (b : Bt) : Vd K H (bV b) (bD b) := by rcases b with _ | _ | _; exact Vd.non; exact Vd.int _; exact Vd.int _
/-- work(row, width) -/
def spWCall (ad : Ad) : Sp := fun vs H Q _ => ∃ (v : V) (r : Addr) (ts : List RT) (xs : List Bt) (wi : Nat), vs = [v, .ref r, .int (wi : Nat)] ∧ WkAt ad H v ts ∧
  H r = some (.lst (xs.map bV)) ∧ xs.length ≤ 128 ∧ 2 ≤ wi ∧ wi ≤ 128 ∧
  ∀ (l : Addr) (H' : Hp), H l = none → H' l = some (.lst ((rowB wi ts xs).map bV)) → L2.Same H H' → Q (.ref l) H'
abbrev st_Work_call : Stmt := inClass (top 23) 4
theorem sc_Work_call : FnScope ["self", "row", "width", "position", "bit"] ["self", "row", "width"] (defScope st_Work_call) := ⟨rfl, rfl, rfl, by decide +kernel, rfl, by decide +kernel, by decide +kernel⟩
theorem ok_Work_call {f : Addr} {fd : FuncData} (F : Fun K "__call__" "Work.__call__" st_Work_call f fd) (T : Txt K mg ad) (c_is_list : Cal P w K mg base 1 "is_list" (spIsList K)) (c_is_bit : Cal P w K mg base 2 "is_bit" (spBit K)) (c_is_between : Cal P w K mg base 1 "is_between" (spBetw K)) (c_filled : Cal P w K mg base 3 "filled" (spFilled ad)) :
    FnOk P w K mg base CX0 4 f fd ["self", "row", "width"] (spWCall ad) := by
  refine F.ok sc_Work_call (fun vs H Q E h => ?_) (fun cdv A outer s H vs Q E hr h => ?_)
  · obtain (⟨v, r, ts, xs, wi, rfl, ⟨a, dx, tp, fs, rfl, h1, h2, h3, h4, h5⟩, hrow, hx, w0, w1, q⟩) := h
    rfl
  · obtain (⟨v, r, ts, xs, wi, rfl, ⟨a, dx, tp, fs, rfl, h1, h2, h3, h4, h5⟩, hrow, hx, w0, w1, q⟩) := h
    refine ⟨_, pss_cons (ps_if (pt_not (pt_val (pe_c c_is_list hr (by decide) (by rfl) (pa_cons (pv 1) pa_nil)))) (pss_one ps_never) pss_nil)
      (pss_cons (ps_for PassesOwn.never rfl (pi_enumT (by rfl) T.bi.enumerate (pa_cons (pv 1) pa_nil)) (pg_tup rfl (pgs_cons (pg_name (i := 3) sc_Work_call.nd rfl (Or.inl rfl)) (pgs_cons (pg_name (i := 4) sc_Work_call.nd rfl (Or.inl rfl)) pgs_nil)))
        (pss_one (ps_if (pt_not (pt_val (pe_c c_is_bit hr (by decide) (by rfl) (pa_cons (pv 4) pa_nil)))) (pss_one ps_never) pss_nil)))
      (pss_cons (ps_if (pt_not (pt_val (pe_c c_is_between hr (by decide) (by rfl) (pa_cons (pv 2) (pa_cons (pe_gl (by rfl) T.v_LEAST_WIDTH) (pa_cons (pe_gl (by rfl) T.v_MOST_BITS) pa_nil)))))) (pss_one ps_never) pss_nil)
      (pss_one (ps_ret (pe_c c_filled hr (by decide) (by rfl) (pa_cons (pe_fld (pv 0) rfl) (pa_cons (pv 1) (pa_cons (pv 2) pa_nil)))))))), ?_⟩
    have ty : TyX K H (.ref r) (.type "list") := .base (.lst hrow)
    have e1 : PySem.W.kitOne K (.type "list") (.type "list") = some true := L2.kit_ty (by decide +kernel)
    have e2 : PySem.W.kitOne K (.type "list") (.type "tuple") = some false := L2.kit_ty (by decide +kernel)
    walk_at "go"
    rename_i H1 s1
    have hr1 := s1 _ _ hrow
    refine for_it (walk_enum (xs := xs.map bV)) (fun i σ H' => Hold (∃ x y, σ = [some (.ref a), some (.ref r), some (.int (wi : Nat)), x, y] ∧ L2.Same H H')) (Hold.mk ⟨_, _, rfl, s1⟩) (fun i σ H1 _ hh => ?_) (fun i y σ H1 H' hi hh hy => ?_) (fun σ H1 hh => ?_)
    · obtain ⟨_, _, _, s2⟩ := hh.out
      exact SqL.of (s2 _ _ hrow)
    · obtain ⟨x, y, es, s2⟩ := hh.out
      clear hh
      subst es
      obtain ⟨T1, u, v, rfl, hT1, rfl, hu, hv⟩ := hy
      cases hu
      have s3 := s2.trans (same_new (o := .tup [V.int ((i : Nat) : Int), v]) hT1)
      have hv' : (xs.map bV)[i]? = some v := hv
      rw [List.getElem?_map] at hv'
      obtain ⟨b, hb, rfl⟩ := Option.map_eq_some_iff.mp hv'
      have hd : Vd K (upd H1 T1 (.tup [V.int ((i : Nat) : Int), bV b])) (bV b) (bD b) := vd_b b
      have hbd : bitD (bD b) = true := bitD_b
      walk_at "go"
      exact Hold.mk ⟨_, _, rfl, s3⟩
    · obtain ⟨x, y, es, s2⟩ := hh.out
      clear hh
      subst es
      have hw1 : Any K H1 (.int (wi : Nat)) (.int (wi : Nat)) := .inl (.int _)
      have hb1 : betD 2 128 (.int (wi : Nat)) = true := by simp [betD]; omega
      have g1 := s2 _ _ h1
      have g2 := s2 _ _ h2
      have g3 := h3.ev (Ev.same s2)
      have g4 := s2 _ _ hrow
      walk_at "go"
      rename_i l H2 hl hL s3
      exact q l _ (UL.Same.none s2 hl) hL (s2.trans s3)
end
end K14
set_option Elab.async false
set_option linter.all false
set_option maxRecDepth 100000
set_option maxHeartbeats 4000000


namespace K14
open PySem L2 UL ClX
local macro_rules | `(tactic| walk_at "txt") => `(tactic| first
  | ((with_reducible show PySem.W.kitOne _ (.ref _) (.ref _) = _); first | exact Txt.ks_Work_Fill (by assumption) | exact Txt.ks_Fill_Work (by assumption))
  | ((with_reducible show PySem.W.notFirst _ _ (.ref _) = _); first | exact Txt.nf_Work_Fill (by assumption) | exact Txt.nf_Fill_Work (by assumption))
  | ((with_reducible show L2.Cls _ _); first | exact UL.CIsi.cl (Txt.i_Fill (by assumption)) | exact UL.CIsi.cl (Txt.i_Work (by assumption)))
  | ((with_reducible show UL.CIsi _ _); first | exact Txt.i_Fill (by assumption) | exact Txt.i_Work (by assumption))
  | ((with_reducible show L2.NoAttr _ _ _); first | exact Txt.n_Fill_word (by assumption) | exact Txt.n_Fill_extent (by assumption) | exact Txt.n_Work_fills (by assumption))
  | ((with_reducible show L2.TyX _ _ _ _); first | exact UL.CIsi.ty (Txt.i_Fill (by assumption)) (by walk_at "look") | exact UL.CIsi.ty (Txt.i_Work (by assumption)) (by walk_at "look"))
  | ((with_reducible show PySem.W.kitOne _ (.type _) (.ref _) = _); first | exact ((Txt.k_Fill (by assumption)) _ (by simp)).1 | exact ((Txt.k_Work (by assumption)) _ (by simp)).1)
  | ((with_reducible show _ = PySem.Value.ref _ ∨ _); first | exact .inl rfl | exact .inr ⟨_, rfl, Txt.no_Fill (by assumption)⟩)
  | fail)
open K14M (RT okR plS plainR lastW rowB)
theorem row_all : ∀ (ts us : List RT), (((List.range (min ts.length us.length)).all fun i => decide (ts[i]? = us[i]?)) && (ts.length == us.length)) = decide (ts = us) := by
  intro ts us
  rw [Bool.eq_iff_iff, Bool.and_eq_true, List.all_eq_true, beq_iff_eq, decide_eq_true_iff]
  constructor
  · rintro ⟨h, hl⟩
    refine List.ext_getElem? fun i => ?_
    by_cases c : i < ts.length
    · exact of_decide_eq_true (h i (List.mem_range.mpr (by omega)))
    · rw [List.getElem?_eq_none (by omega), List.getElem?_eq_none (by omega)]
  · rintro rfl
    exact ⟨fun i _ => decide_eq_true rfl, rfl⟩
def RF (ad : Ad) : Addr → Addr → Bool → Hp → Prop := fun a b r H => ∃ w1 w2 e1 e2, FillAt ad H (.ref a) w1 (.int e1) ∧ FillAt ad H (.ref b) w2 (.int e2) ∧ r = decide (w1 = w2 ∧ e1 = e2)
theorem mon_RF {ad : Ad} : MonB (DInsB ad.c_Fill (RF ad)) := fun x y r H H' e d => by
  obtain ⟨a, b, dx, dy, fs, gs, rfl, rfl, h1, h2, w1, w2, e1, e2, ⟨a1, d1, z1, f1⟩, ⟨a2, d2, z2, f2⟩, er⟩ := d
  exact ⟨a, b, dx, dy, fs, gs, rfl, rfl, e _ _ h1, e _ _ h2, w1, w2, e1, e2, ⟨a1, d1, z1, e _ _ f1⟩, ⟨a2, d2, z2, e _ _ f2⟩, er⟩
theorem eqB_fill {X : Cx} {ad : Ad} {k : Nat} (cE : CalS X.prog X.w X.K X.mg X.base k ad.c_Fill "__eq__" (spFEq ad)) : EqB X k (DInsB ad.c_Fill (RF ad)) := by
  obtain ⟨f, F, h1, h2⟩ := cE
  refine (rcB_ins (R := RF ad) (F.imp fun vs H Q E h => ?_) h1 h2 pass0).eqB fun x y r H d => ?_
  · obtain ⟨a, b, r, rfl, ⟨w1, w2, e1, e2, f1, f2, rfl⟩, k⟩ := h
    exact ⟨.ref a, .ref b, w1, w2, e1, e2, rfl, f1, f2, k H Ext.rfl'⟩
  · obtain ⟨a, b, dx, dy, fs, gs, rfl, rfl, _, _, w1, w2, e1, e2, f1, f2, rfl⟩ := d
    refine ⟨a, b, rfl, rfl, fun e => ?_⟩
    subst e
    obtain ⟨a1, d1, z1, g1⟩ := f1
    obtain ⟨a2, d2, z2, g2⟩ := f2
    cases z1
    cases z2
    rw [g1] at g2
    have : ffs w1 (.int e1) = ffs w2 (.int e2) := by
      injection g2 with z
      injection z
    refine decide_eq_true ?_
    simpa [ffs] using this
theorem eqB_fills {X : Cx} {ad : Ad} {k : Nat} (cE : CalS X.prog X.w X.K X.mg X.base k ad.c_Fill "__eq__" (spFEq ad)) : RcB X (k + 1) (DTupB X.K (DInsB ad.c_Fill (RF ad))) := rcB_tup mon_RF (eqB_fill cE)
section
variable {P : Program} {w : World} {K : PySem.W.Frag} {mg : Str → Option Value} {base : Heap} {ad : Ad}
/-- work == work -/
def spWEq (ad : Ad) : Sp := fun vs H Q _ => ∃ (v u : V) (ts us : List RT), vs = [v, u] ∧ WkAt ad H v ts ∧ WkAt ad H u us ∧ ∀ H' : Hp, L2.Same H H' → Q (.bl (decide (ts = us))) H'
abbrev st_Work_eq : Stmt := inClass (top 23) 7
theorem sc_Work_eq : FnScope ["self", "other"] ["self", "other"] (defScope st_Work_eq) := ⟨rfl, rfl, rfl, by decide +kernel, rfl, by decide +kernel, by decide +kernel⟩
theorem ok_Work_eq {f : Addr} {fd : FuncData} (F : Fun K "__eq__" "Work.__eq__" st_Work_eq f fd) (T : Txt K mg ad) (c_Fill_eq : CalS P w K mg base 1 ad.c_Fill "__eq__" (spFEq ad)) :
    FnOk P w K mg base CX0 3 f fd ["self", "other"] (spWEq ad) := by
  refine F.ok sc_Work_eq (fun vs H Q E h => ?_) (fun cdv A outer s H vs Q E hr h => ?_)
  · obtain (⟨v, u, ts, us, rfl, ⟨a, dx, tp, fs, rfl, h1, h2, h3, h4, h5⟩, ⟨b, dy, tq, gs, rfl, g1, g2, g3, g4, g5⟩, q⟩) := h
    rfl
  · obtain (⟨v, u, ts, us, rfl, ⟨a, dx, tp, fs, rfl, h1, h2, h3, h4, h5⟩, ⟨b, dy, tq, gs, rfl, g1, g2, g3, g4, g5⟩, q⟩) := h
    refine ⟨_, pss_one (ps_ret (pe_and (pe_callB call_isi (by rfl) T.bi.isinstance (by decide +kernel) (pa_cons (pv 1) (pa_cons (pe_glob (v := .ref ad.c_Work) (by rfl) T.g_Work rfl) pa_nil))) (pe_one (pe_cmpR (op_eqB (eqB_fills c_Fill_eq) hr) (pe_fld (pv 0) rfl) (pe_fld (pv 1) rfl) (nomark _))))), ?_⟩
    walk_at "go"
    refine ⟨_, ⟨tp, tq, _, _, fun i => decide (ts[i]? = us[i]?), rfl, rfl, SqT.of h2, SqT.of g2, fun i x y e1 e2 => ?_, rfl⟩, fun H' ex => ?_⟩
    · have l1 : i < ts.length := by rw [← h3.1]; exact (List.getElem?_eq_some_iff.mp e1).1
      have l2 : i < us.length := by rw [← g3.1]; exact (List.getElem?_eq_some_iff.mp e2).1
      have q1 := h3.2 i x _ e1 (List.getElem?_eq_getElem l1)
      have q2 := g3.2 i y _ e2 (List.getElem?_eq_getElem l2)
      obtain ⟨a1, d1, rfl, c1⟩ := id q1
      obtain ⟨a2, d2, rfl, c2⟩ := id q2
      refine ⟨a1, a2, d1, d2, _, _, rfl, rfl, c1, c2, _, _, _, _, q1, q2, ?_⟩
      dsimp only
      rw [List.getElem?_eq_getElem l1, List.getElem?_eq_getElem l2, decide_eq_decide]
      exact ⟨fun z => (fillAt_eq q1 q2).mpr (Option.some.inj z), fun z => congrArg some ((fillAt_eq q1 q2).mp z)⟩
    · have e := row_all ts us
      rw [h3.1, g3.1, e]
      exact q H' ex
end
end K14
set_option Elab.async false
set_option linter.all false
set_option maxRecDepth 100000
set_option maxHeartbeats 4000000


namespace K14
open PySem L2 UL ClX
local macro_rules | `(tactic| walk_at "txt") => `(tactic| first
  | ((with_reducible show PySem.W.kitOne _ (.ref _) (.ref _) = _); first | exact Txt.ks_Work_Fill (by assumption) | exact Txt.ks_Fill_Work (by assumption))
  | ((with_reducible show PySem.W.notFirst _ _ (.ref _) = _); first | exact Txt.nf_Work_Fill (by assumption) | exact Txt.nf_Fill_Work (by assumption))
  | ((with_reducible show L2.Cls _ _); first | exact UL.CIsi.cl (Txt.i_Fill (by assumption)) | exact UL.CIsi.cl (Txt.i_Work (by assumption)))
  | ((with_reducible show UL.CIsi _ _); first | exact Txt.i_Fill (by assumption) | exact Txt.i_Work (by assumption))
  | ((with_reducible show L2.NoAttr _ _ _); first | exact Txt.n_Fill_word (by assumption) | exact Txt.n_Fill_extent (by assumption) | exact Txt.n_Work_fills (by assumption))
  | ((with_reducible show L2.TyX _ _ _ _); first | exact UL.CIsi.ty (Txt.i_Fill (by assumption)) (by walk_at "look") | exact UL.CIsi.ty (Txt.i_Work (by assumption)) (by walk_at "look"))
  | ((with_reducible show PySem.W.kitOne _ (.type _) (.ref _) = _); first | exact ((Txt.k_Fill (by assumption)) _ (by simp)).1 | exact ((Txt.k_Work (by assumption)) _ (by simp)).1)
  | ((with_reducible show _ = PySem.Value.ref _ ∨ _); first | exact .inl rfl | exact .inr ⟨_, rfl, Txt.no_Fill (by assumption)⟩)
  | fail)
open K14M (RT okR plS plainR lastW rowB)
section
variable {P : Program} {w : World} {K : PySem.W.Frag} {mg : Str → Option Value} {base : Heap} {ad : Ad}
/-- work.is_like(work) -/
def spWLike (ad : Ad) : Sp := fun vs H Q _ => ∃ (v u : V) (ts us : List RT), vs = [v, u] ∧ WkAt ad H v ts ∧ WkAt ad H u us ∧ ∀ H' : Hp, L2.Same H H' → Q (.bl (decide (plainR ts = plainR us))) H'
abbrev st_Work_is_like : Stmt := inClass (top 23) 3
theorem sc_Work_is_like : FnScope ["self", "other"] ["self", "other"] (defScope st_Work_is_like) := ⟨rfl, rfl, rfl, by decide +kernel, rfl, by decide +kernel, by decide +kernel⟩
theorem ok_Work_is_like {f : Addr} {fd : FuncData} (F : Fun K "is_like" "Work.is_like" st_Work_is_like f fd) (T : Txt K mg ad) (c_Work_plain : CalM P w K mg base 6 ad.c_Work "plain" (spWPlain ad)) (c_Work_eq : CalS P w K mg base 3 ad.c_Work "__eq__" (spWEq ad)) :
    FnOk P w K mg base CX0 7 f fd ["self", "other"] (spWLike ad) := by
  refine F.ok sc_Work_is_like (fun vs H Q E h => ?_) (fun cdv A outer s H vs Q E hr h => ?_)
  · obtain (⟨v, u, ts, us, rfl, hv, hu, q⟩) := h
    rfl
  · obtain (⟨v, u, ts, us, rfl, hv, hu, q⟩) := h
    refine ⟨_, pss_cons (ps_if (pt_not (pt_val (pe_callB call_isi (by rfl) T.bi.isinstance (by decide +kernel) (pa_cons (pv 1) (pa_cons (pe_glob (v := .ref ad.c_Work) (by rfl) T.g_Work rfl) pa_nil))))) (pss_one ps_never) pss_nil)
      (pss_one (ps_ret (pe_cmpR (op_eqS c_Work_eq hr (by decide)) (pe_m0 (pv 0) c_Work_plain hr (by decide)) (pe_m0 (pv 1) c_Work_plain hr (by decide)) (nomark _)))), ?_⟩
    obtain ⟨a, dx, tp, fs, rfl, h1, h2, h3, h4, h5⟩ := id hv
    obtain ⟨b, dy, tq, gs, rfl, g1, g2, g3, g4, g5⟩ := id hu
    walk_at "go"
    rename_i u1 H1 hu1 s1
    refine ⟨.ref b, us, rfl, hu.ev (Ev.same s1), fun u2 H2 hu2 s2 => ?_⟩
    have hu3 := hu1.ev (Ev.same s2)
    obtain ⟨a1, dx1, tp1, fs1, rfl, i1, i2, i3, i4, i5⟩ := id hu3
    obtain ⟨a2, dx2, tp2, fs2, rfl, j1, j2, j3, j4, j5⟩ := id hu2
    have nf : PySem.W.notFirst K ad.c_Work (.ref ad.c_Work) = true := by simp [PySem.W.notFirst]
    walk_at "go"
    rename_i H3 s3
    exact q H3 ((s1.trans s2).trans s3)
end
end K14
set_option Elab.async false
set_option linter.all false
set_option maxRecDepth 100000
set_option maxHeartbeats 4000000


namespace K14
open PySem L2 UL ClX
local macro_rules | `(tactic| walk_at "txt") => `(tactic| first
  | ((with_reducible show PySem.W.kitOne _ (.ref _) (.ref _) = _); first | exact Txt.ks_Work_Fill (by assumption) | exact Txt.ks_Fill_Work (by assumption))
  | ((with_reducible show PySem.W.notFirst _ _ (.ref _) = _); first | exact Txt.nf_Work_Fill (by assumption) | exact Txt.nf_Fill_Work (by assumption))
  | ((with_reducible show L2.Cls _ _); first | exact UL.CIsi.cl (Txt.i_Fill (by assumption)) | exact UL.CIsi.cl (Txt.i_Work (by assumption)))
  | ((with_reducible show UL.CIsi _ _); first | exact Txt.i_Fill (by assumption) | exact Txt.i_Work (by assumption))
  | ((with_reducible show L2.NoAttr _ _ _); first | exact Txt.n_Fill_word (by assumption) | exact Txt.n_Fill_extent (by assumption) | exact Txt.n_Work_fills (by assumption))
  | ((with_reducible show L2.TyX _ _ _ _); first | exact UL.CIsi.ty (Txt.i_Fill (by assumption)) (by walk_at "look") | exact UL.CIsi.ty (Txt.i_Work (by assumption)) (by walk_at "look"))
  | ((with_reducible show PySem.W.kitOne _ (.type _) (.ref _) = _); first | exact ((Txt.k_Fill (by assumption)) _ (by simp)).1 | exact ((Txt.k_Work (by assumption)) _ (by simp)).1)
  | ((with_reducible show _ = PySem.Value.ref _ ∨ _); first | exact .inl rfl | exact .inr ⟨_, rfl, Txt.no_Fill (by assumption)⟩)
  | fail)
section
variable {P : Program} {w : World} {K : PySem.W.Frag} {mg : Str → Option Value} {base : Heap} {ad : Ad}
/-- _law_pick(pot, some): one of them -/
def spPick1 (K : PySem.W.Frag) : Sp := fun vs H Q _ => ∃ (p l : Addr) (xs : List V), vs = [.ref p, .ref l] ∧ Pot H p ∧ l ≠ p ∧ SqL K H l xs ∧ 0 < xs.length ∧ xs.length < 1073741824 ∧
  ∀ (i : Nat) (v : V) (H' : Hp), xs[i]? = some v → Pot H' p → Stay p H H' → Q v H'
/-- _law_pot(script, k): a new pot -/
def spPot (K : PySem.W.Frag) : Sp := fun vs H Q _ => ∃ (a : Addr) (ns : List Int) (k : Int), vs = [.ref a, .int k] ∧ SqL K H a (ns.map V.int) ∧ 0 ≤ k ∧ k ≤ 100 ∧
  ∀ (p : Addr) (H' : Hp), H p = none → Pot H' p → L2.Same H H' → Q (.ref p) H'
abbrev st_l_draw : Stmt := top 28
theorem sc_l_draw : FnScope ["_law_pot_here", "_law_size", "_law_digit"] ["_law_pot_here", "_law_size"] (defScope st_l_draw) := ⟨rfl, rfl, rfl, by decide +kernel, rfl, by decide +kernel, by decide +kernel⟩
theorem ok_l_draw {f : Addr} {fd : FuncData} (F : Fun K "_law_draw" "_law_draw" st_l_draw f fd) (T : Txt K mg ad)  :
    FnOk P w K mg base CX0 1 f fd ["_law_pot_here", "_law_size"] spDraw := by
  refine F.ok sc_l_draw (fun vs H Q E h => ?_) (fun cdv A outer s H vs Q E hr h => ?_)
  · obtain (⟨p, n, rfl, ⟨a, b, hp, hb0, hb1⟩, hn0, hn1, k⟩) := h
    rfl
  · obtain (⟨p, n, rfl, ⟨a, b, hp, hb0, hb1⟩, hn0, hn1, k⟩) := h
    refine ⟨_, pss_cons (ps_if (pt_cmpR op_gt (pe_ix ix_list (pv 0) pe_int (fun _ _ => rfl)) pe_int (nomark _)) (pss_cons (ps_asg (pe_callB call_divmod (by rfl) T.bi.divmod (by decide +kernel) (pa_cons (pe_ix ix_list (pv 0) pe_int (fun _ _ => rfl)) (pa_cons (pv 1) pa_nil))) (pg_tup rfl (pgs_cons (pg_sub (pv 0) pe_int set_list) (pgs_cons (pg_name (i := 2) sc_l_draw.nd rfl (Or.inl rfl)) pgs_nil))))
          (pss_one (ps_ret (pv 2)))) pss_nil)
      (pss_cons (ps_asg (pe_op op_mod (pe_callTy call_int1 (by rfl) T.bi.int (by decide +kernel) (pa_cons (pe_op op_add (pe_op op_mul (pe_ix ix_list (pv 0) pe_int (fun _ _ => rfl)) pe_int) pe_int) pa_nil)) pe_int) (pg_sub (pv 0) pe_int set_list))
      (pss_one (ps_ret (pe_op op_mod (pe_callTy call_int1 (by rfl) T.bi.int (by decide +kernel) (pa_cons (pe_op op_fdiv (pe_op op_mod (pe_callTy call_int1 (by rfl) T.bi.int (by decide +kernel) (pa_cons (pe_op op_mul (pe_ix ix_list (pv 0) pe_int (fun _ _ => rfl)) (pe_ix ix_list (pv 0) pe_int (fun _ _ => rfl))) pa_nil)) pe_int) pe_int) pa_nil)) (pv 1))))), ?_⟩
    -- if pot[0] > 0
    refine ⟨_, rfl, p, _, _, _, rfl, rfl, SqL.of hp, atI_nat (j := 0) rfl, _, _, rfl, rfl, _, rfl, ?_⟩
    by_cases c : 0 < a
    · rw [decide_eq_true c]
      refine iteT ?_
      refine ⟨_, rfl, p, _, _, _, rfl, rfl, SqL.of hp, atI_nat (j := 0) rfl, _, rfl, _, _, rfl, ⟨hn0, hn1⟩, fun t ht => ?_⟩
      have npt : p ≠ t := ne_of_none hp ht
      refine ⟨t, _, rfl, SqT.of upd_same, rfl, _, _, rfl, _, rfl, p, _, _, 0, rfl, rfl, (by rw [upd_ne npt]; exact hp), rfl, _, _, rfl, rfl, ?_⟩
      refine ⟨_, rfl, ?_⟩
      refine k _ _ (Int.emod_nonneg _ (by omega)) (Int.emod_lt_of_pos _ hn0) ⟨_, b, upd_same, hb0, hb1⟩ fun u o hu e => ?_
      rw [upd_ne hu, upd_ne (ne_of_none e ht)]
      exact e
    · rw [decide_eq_false c]
      refine iteF ?_
      refine ⟨_, rfl, p, _, _, _, rfl, rfl, SqL.of hp, atI_nat (j := 1) rfl, _, _, rfl, rfl, .inr ⟨by decide, by decide⟩, _, _, rfl, rfl, .inl ⟨_, rfl, _, _, rfl, rfl, (by show (0 : Int) < 2147483587; decide), ?_⟩⟩
      refine ⟨_, rfl, p, _, _, 1, rfl, rfl, hp, rfl, ?_⟩
      have e1 : 0 ≤ (b * 48271 + 12161) % 2147483587 := Int.emod_nonneg _ (by decide)
      have e2 : (b * 48271 + 12161) % 2147483587 < 2147483587 := Int.emod_lt_of_pos _ (by decide)
      dsimp only [List.set]
      generalize (b * 48271 + 12161) % 2147483587 = z at e1 e2 ⊢
      refine ⟨_, rfl, p, _, _, _, rfl, rfl, SqL.of upd_same, atI_nat (j := 1) rfl, _, rfl, p, _, _, _, rfl, rfl, SqL.of upd_same, atI_nat (j := 1) rfl, _, _, rfl, rfl, .inl ⟨by omega, by omega⟩, .inl ⟨_, rfl, _, _, rfl, rfl, (by show (0 : Int) < 2147483549; decide), _, _, rfl, rfl, ⟨by decide, by decide⟩,
        .inl ⟨_, rfl, _, rfl, _, _, rfl, rfl, hn0, ?_⟩⟩⟩
      exact k _ _ (Int.emod_nonneg _ (by omega)) (Int.emod_lt_of_pos _ hn0) ⟨a, z, upd_same, e1, by omega⟩ stay_upd
abbrev st_l_pick : Stmt := top 29
theorem sc_l_pick : FnScope ["_law_pot_here", "_law_some"] ["_law_pot_here", "_law_some"] (defScope st_l_pick) := ⟨rfl, rfl, rfl, by decide +kernel, rfl, by decide +kernel, by decide +kernel⟩
theorem ok_l_pick {f : Addr} {fd : FuncData} (F : Fun K "_law_pick" "_law_pick" st_l_pick f fd) (T : Txt K mg ad) (c_l_draw : Cal P w K mg base 1 "_law_draw" spDraw) :
    FnOk P w K mg base CX0 2 f fd ["_law_pot_here", "_law_some"] (spPick1 K) := by
  refine F.ok sc_l_pick (fun vs H Q E h => ?_) (fun cdv A outer s H vs Q E hr h => ?_)
  · obtain (⟨p, l, xs, rfl, hp, hne, hS, h0, h1, k⟩) := h
    rfl
  · obtain (⟨p, l, xs, rfl, hp, hne, hS, h0, h1, k⟩) := h
    refine ⟨_, pss_one (ps_ret (pe_ix ix_list (pv 1) (pe_c c_l_draw hr (by decide) (by rfl) (pa_cons (pv 0) (pa_cons (pe_callB call_len_seq (by rfl) T.bi.len (by decide +kernel) (pa_cons (pv 1) pa_nil)) pa_nil))) (fun _ _ => rfl))), ?_⟩
    refine ⟨_, rfl, _, rfl, _, rfl, l, xs, rfl, .inl hS, p, (xs.length : Int), rfl, hp, by omega, by omega, fun d H' d0 d1 hp' st => ?_⟩
    obtain ⟨j, rfl⟩ : ∃ j : Nat, d = (j : Int) := ⟨d.toNat, by omega⟩
    have hj : j < xs.length := by omega
    exact ⟨l, xs, _, xs[j], rfl, rfl, Stay.seqL st hne hS, atI_nat (List.getElem?_eq_getElem hj), k j _ H' (List.getElem?_eq_getElem hj) hp' st⟩
theorem pot_b (z k : Int) : 0 ≤ (z % 2147483549 + 7) * (2 * k + 3) ^ 3 % 2147483477 + 1 ∧ (z % 2147483549 + 7) * (2 * k + 3) ^ 3 % 2147483477 + 1 < 4294967296 := by
  have h1 := Int.emod_nonneg ((z % 2147483549 + 7) * (2 * k + 3) ^ 3) (show (2147483477 : Int) ≠ 0 by decide)
  have h2 := Int.emod_lt_of_pos ((z % 2147483549 + 7) * (2 * k + 3) ^ 3) (show (0 : Int) < 2147483477 by decide)
  omega
abbrev st_l_pot : Stmt := top 27
theorem sc_l_pot : FnScope ["_law_script", "_law_k", "_law_cell"] ["_law_script", "_law_k"] (defScope st_l_pot) := ⟨rfl, rfl, rfl, by decide +kernel, rfl, by decide +kernel, by decide +kernel⟩
theorem ok_l_pot {f : Addr} {fd : FuncData} (F : Fun K "_law_pot" "_law_pot" st_l_pot f fd) (T : Txt K mg ad)  :
    FnOk P w K mg base CX0 1 f fd ["_law_script", "_law_k"] (spPot K) := by
  refine F.ok sc_l_pot (fun vs H Q E h => ?_) (fun cdv A outer s H vs Q E hr h => ?_)
  · obtain (⟨a, ns, i, rfl, hS, i0, i1, k⟩) := h
    rfl
  · obtain (⟨a, ns, i, rfl, hS, i0, i1, k⟩) := h
    refine ⟨_, pss_cons (ps_set (i := 2) sc_l_pot.nd rfl (.inl rfl) (pe_op op_add (pe_op op_mul pe_int (pv 1)) pe_int))
      (pss_cons (ps_if (pt_cmpR op_lt (pv 1) (pe_callB call_len_seq (by rfl) T.bi.len (by decide +kernel) (pa_cons (pv 0) pa_nil)) (nomark _)) (pss_one (ps_set (i := 2) sc_l_pot.nd rfl (.inl rfl) (pe_callB call_abs (by rfl) T.bi.abs (by decide +kernel) (pa_cons (pe_ix ix_list (pv 0) (pv 1) (fun _ _ => rfl)) pa_nil)))) pss_nil)
      (pss_one (ps_ret (pe_lst (pa_cons (pe_callB (call_max2 rfl) (by rfl) T.bi.max (by decide +kernel) (pa_cons pe_int (pa_cons (pe_op op_sub (pv 2) (pe_op op_pow pe_int pe_int)) pa_nil))) (pa_cons (pe_op op_add (pe_op op_mod (pe_op op_mul (pe_callTy call_int1 (by rfl) T.bi.int (by decide +kernel) (pa_cons (pe_op op_add (pe_op op_mod (pe_callTy call_int1 (by rfl) T.bi.int (by decide +kernel) (pa_cons (pv 2) pa_nil)) pe_int) pe_int) pa_nil)) (pe_op op_pow (pe_op op_add (pe_op op_mul pe_int (pv 1)) pe_int) pe_int)) pe_int) pe_int) pa_nil)))))), ?_⟩
    refine ⟨_, rfl, _, _, rfl, rfl, .inl ⟨by decide, by decide⟩, _, _, rfl, rfl, ?_⟩
    refine ⟨_, rfl, _, rfl, a, _, rfl, .inl hS, _, _, rfl, rfl, _, rfl, ?_⟩
    have m1 : ∀ z : Int, -(2 ^ 64) < z % 2147483549 + 7 ∧ z % 2147483549 + 7 < 2 ^ 64 := fun z => by
      have h1 := Int.emod_nonneg z (show (2147483549 : Int) ≠ 0 by decide)
      have h2 := Int.emod_lt_of_pos z (show (0 : Int) < 2147483549 by decide)
      omega
    by_cases c : i < ((ns.map V.int).length : Int)
    · rw [decide_eq_true c]
      rw [List.length_map] at c
      obtain ⟨j, rfl⟩ : ∃ j : Nat, i = (j : Int) := ⟨i.toNat, by omega⟩
      have hj : j < ns.length := by omega
      refine iteT ⟨_, rfl, _, rfl, a, _, _, V.int ns[j], rfl, rfl, hS, atI_nat (by rw [List.getElem?_map, List.getElem?_eq_getElem hj]; rfl), _, rfl, ?_⟩
      generalize (if ns[j] < 0 then -ns[j] else ns[j]) = z
      refine ⟨_, rfl, _, _, rfl, rfl, ⟨by decide, by decide, by decide⟩, _, _, rfl, rfl, 0, _, rfl, ?_⟩
      refine ⟨_, rfl, .inl ⟨z, rfl, _, _, rfl, rfl, (by show (0 : Int) < 2147483549; decide), _, _, rfl, rfl, .inl ⟨_, rfl, _, rfl, _, _, rfl, rfl, .inl ⟨by decide, by decide⟩, _, _, rfl, rfl, _, _, rfl, rfl, ⟨by decide, by decide, by omega⟩, _, _, rfl, rfl,
        .inl (m1 z), _, _, rfl, rfl, (by show (0 : Int) < 2147483477; decide), _, _, rfl, rfl, (by show 2 ≤ sizeLine; decide), fun q hq => ?_⟩⟩⟩
      exact k q _ hq ⟨_, _, upd_same, pot_b z _⟩ (same_new hq)
    · rw [decide_eq_false c]
      refine iteF ?_
      refine ⟨_, rfl, _, _, rfl, rfl, ⟨by decide, by decide, by decide⟩, _, _, rfl, rfl, 0, _, rfl, ?_⟩
      refine ⟨_, rfl, .inl ⟨29 * i + 8, rfl, _, _, rfl, rfl, (by show (0 : Int) < 2147483549; decide), _, _, rfl, rfl, .inl ⟨_, rfl, _, rfl, _, _, rfl, rfl, .inl ⟨by decide, by decide⟩, _, _, rfl, rfl, _, _, rfl, rfl, ⟨by decide, by decide, by omega⟩, _, _, rfl, rfl,
        .inl (m1 _), _, _, rfl, rfl, (by show (0 : Int) < 2147483477; decide), _, _, rfl, rfl, (by show 2 ≤ sizeLine; decide), fun q hq => ?_⟩⟩⟩
      exact k q _ hq ⟨_, _, upd_same, pot_b _ _⟩ (same_new hq)
end
end K14
set_option Elab.async false
set_option linter.all false
set_option maxRecDepth 100000
set_option maxHeartbeats 4000000


namespace K14
open PySem L2 UL ClX
local macro_rules | `(tactic| walk_at "txt") => `(tactic| first
  | ((with_reducible show PySem.W.kitOne _ (.ref _) (.ref _) = _); first | exact Txt.ks_Work_Fill (by assumption) | exact Txt.ks_Fill_Work (by assumption))
  | ((with_reducible show PySem.W.notFirst _ _ (.ref _) = _); first | exact Txt.nf_Work_Fill (by assumption) | exact Txt.nf_Fill_Work (by assumption))
  | ((with_reducible show L2.Cls _ _); first | exact UL.CIsi.cl (Txt.i_Fill (by assumption)) | exact UL.CIsi.cl (Txt.i_Work (by assumption)))
  | ((with_reducible show UL.CIsi _ _); first | exact Txt.i_Fill (by assumption) | exact Txt.i_Work (by assumption))
  | ((with_reducible show L2.NoAttr _ _ _); first | exact Txt.n_Fill_word (by assumption) | exact Txt.n_Fill_extent (by assumption) | exact Txt.n_Work_fills (by assumption))
  | ((with_reducible show L2.TyX _ _ _ _); first | exact UL.CIsi.ty (Txt.i_Fill (by assumption)) (by walk_at "look") | exact UL.CIsi.ty (Txt.i_Work (by assumption)) (by walk_at "look"))
  | ((with_reducible show PySem.W.kitOne _ (.type _) (.ref _) = _); first | exact ((Txt.k_Fill (by assumption)) _ (by simp)).1 | exact ((Txt.k_Work (by assumption)) _ (by simp)).1)
  | ((with_reducible show _ = PySem.Value.ref _ ∨ _); first | exact .inl rfl | exact .inr ⟨_, rfl, Txt.no_Fill (by assumption)⟩)
  | fail)
open K14M (RT okR plS plainR lastW rowB)
/-- a list of rows (word, reach) -/
def RwAt (H : Hp) (l : Addr) (ts : List RT) : Prop := ∃ rs : List V, H l = some (.lst rs) ∧ rs.length = ts.length ∧ ∀ (i : Nat) (u : V) (t : RT), rs[i]? = some u → ts[i]? = some t → ∃ a, u = .ref a ∧ H a = some (.tup [.str (wdS t.1), .int t.2])
section
variable {P : Program} {w : World} {K : PySem.W.Frag} {mg : Str → Option Value} {base : Heap} {ad : Ad}
/-- one step before a fill is made -/
theorem flR {H1 : Hp} {x dx : Addr} {t : RT} {R : VK} {E : XK} (nx : H1 x = none) (nd_ : H1 dx = none) (ne : dx ≠ x) (ot : okR t) (q : ∀ H', L2.Same H1 H' → FillAt ad H' (.ref x) (wdS t.1) (.int t.2) → R .non H') :
    spFillI ad [.ref x, .str (wdS t.1), .int t.2] (upd (upd H1 dx (.own x)) x (.ins ad.c_Fill dx [])) R E := by
  have s1 : L2.Same H1 (upd H1 dx (.own x)) := same_new nd_
  have n2 : upd H1 dx (.own x) x = none := by rw [upd_ne ne.symm]; exact nx
  have s2 := s1.trans (same_new (o := .ins ad.c_Fill dx []) n2)
  have hw : wdS t.1 = "zeros" ∨ wdS t.1 = "sign" := by
    cases t.1
    · exact .inl rfl
    · exact .inr rfl
  unfold spFillI
  exact ⟨x, dx, wdS t.1, .int t.2, rfl, .inr ⟨hw, t.2, rfl, ot.1, ot.2⟩, upd_same, fun H' h st => q H' (fun b o e => st b o (ne_of_none e nx) (s2 b o e)) ⟨x, dx, rfl, h⟩⟩
/-- _law_made(rows): a work of these -/
def spMade (ad : Ad) : Sp := fun vs H Q _ => ∃ (l : Addr) (ts : List RT), vs = [.ref l] ∧ RwAt H l ts ∧ ts.length ≤ 126 ∧ (∀ t ∈ ts, okR t) ∧ ∀ (v : V) (H' : Hp), WkAt ad H' v ts → L2.Same H H' → Q v H'
abbrev st_l_made : Stmt := top 31
theorem sc_l_made : FnScope ["_law_rows_now", "_law_found", "_law_word", "_law_reach"] ["_law_rows_now"] (defScope st_l_made) := ⟨rfl, rfl, rfl, by decide +kernel, rfl, by decide +kernel, by decide +kernel⟩
theorem ok_l_made {f : Addr} {fd : FuncData} (F : Fun K "_law_made" "_law_made" st_l_made f fd) (T : Txt K mg ad) (m_Work : MakRE P w K mg base 4 "Work" ad.c_Work (spWorkR K ad)) (m_Fill_2 : Mak P w K mg base 3 "Fill" ad.c_Fill [] (spFillI ad)) (c_Work_add : CalSE P w K mg base 6 ad.c_Work "__add__" (spWAdd K ad)) :
    FnOk P w K mg base CX0 7 f fd ["_law_rows_now"] (spMade ad) := by
  refine F.ok sc_l_made (fun vs H Q E h => ?_) (fun cdv A outer s H vs Q E hr h => ?_)
  · obtain (⟨l, ts, rfl, ⟨rs, h1, h2, h3⟩, hl, ho, q⟩) := h
    rfl
  · obtain (⟨l, ts, rfl, ⟨rs, h1, h2, h3⟩, hl, ho, q⟩) := h
    refine ⟨_, pss_cons (ps_set (i := 1) sc_l_made.nd rfl (.inl rfl) (pe_nR0E m_Work px_none hr (by decide) (by rfl)))
      (pss_cons (ps_for PassesOwn.never rfl (pi_list (pv 0)) (pg_tup rfl (pgs_cons (pg_name (i := 2) sc_l_made.nd rfl (Or.inl rfl)) (pgs_cons (pg_name (i := 3) sc_l_made.nd rfl (Or.inl rfl)) pgs_nil)))
        (pss_one (ps_set (i := 1) sc_l_made.nd rfl (.inl rfl) (pe_op (op_addSAE c_Work_add px_none T.sf_Work hr (by decide)) (pv 1) (pe_n m_Fill_2 hr (by decide) (by rfl) (pa_cons (pv 2) (pa_cons (pv 3) pa_nil)))))))
      (pss_one (ps_ret (pv 1)))), ?_⟩
    walk_at "go"
    rename_i x dx nx nd_ ne
    refine wkR (ws := []) (ts := []) nx nd_ ne FsAt.nil (by decide) (fun _ h => by cases h) fun H1 s1 hW => ⟨rfl, ?_⟩
    have hl1 := s1 _ _ h1
    walk_at "go"
    refine ⟨⟨_, SqL.of hl1⟩, for_it (walk_list (xs := rs)) (fun i σ H' => Hold (∃ v z u, σ = [some (.ref l), some v, z, u] ∧ WkAt ad H' v (ts.take i) ∧ L2.Same H H')) (Hold.mk ⟨_, _, _, rfl, hW, s1⟩) (fun i σ H2 _ hh => ?_) (fun i y σ H2 H' hi hh hy => ?_) (fun σ H2 hh => ?_)⟩
    · obtain ⟨_, _, _, _, _, s2⟩ := hh.out
      exact SqL.of (s2 _ _ h1)
    · obtain ⟨v, z, u, es, hv, s2⟩ := hh.out
      clear hh
      subst es
      obtain ⟨rfl, hy⟩ := hy
      have li : i < ts.length := by omega
      have et : ts[i]? = some ts[i] := List.getElem?_eq_getElem li
      obtain ⟨a, rfl, ha⟩ := h3 i y _ hy et
      have ha2 := s2 _ _ ha
      walk_at "go"
      rename_i x2 dx2 nx2 nd2 ne2
      refine flR nx2 nd2 ne2 (ho _ (List.getElem_mem li)) fun H3 s3 hF => ⟨rfl, ?_⟩
      have hv3 := hv.ev (Ev.same s3)
      have hts : (ts.take i).length + 1 ≤ 126 := by rw [List.length_take]; omega
      obtain ⟨va, vdx, vtp, vfs, rfl, v1, v2, v3, v4, v5⟩ := id hv3
      obtain ⟨fa, fdx, ef, hf⟩ := id hF
      cases ef
      refine ⟨va, vdx, _, .ref ad.c_Fill, rfl, v1, UL.CIsi.ty T.i_Fill hf, .inr (.inl ⟨_, rfl, T.no_Fill⟩), ?_⟩
      refine ⟨_, _, ts.take i, [ts[i]], rfl, hv3, .inr (.inl ⟨_, rfl, ho _ (List.getElem_mem li), hF⟩), .inl ⟨hts, fun r H4 hr4 s4 => ?_⟩⟩
      refine Hold.mk ⟨_, _, _, rfl, ?_, (s2.trans s3).trans s4⟩
      rw [List.take_add_one, et]
      exact hr4
    · obtain ⟨v, z, u, es, hv, s2⟩ := hh.out
      clear hh
      subst es
      rw [h2, List.take_length] at hv
      walk_at "go"
      exact q _ _ hv s2
end
end K14
set_option Elab.async false
set_option linter.all false
set_option maxRecDepth 100000
set_option maxHeartbeats 4000000


namespace K14
open PySem L2 UL ClX
local macro_rules | `(tactic| walk_at "txt") => `(tactic| first
  | ((with_reducible show PySem.W.kitOne _ (.ref _) (.ref _) = _); first | exact Txt.ks_Work_Fill (by assumption) | exact Txt.ks_Fill_Work (by assumption))
  | ((with_reducible show PySem.W.notFirst _ _ (.ref _) = _); first | exact Txt.nf_Work_Fill (by assumption) | exact Txt.nf_Fill_Work (by assumption))
  | ((with_reducible show L2.Cls _ _); first | exact UL.CIsi.cl (Txt.i_Fill (by assumption)) | exact UL.CIsi.cl (Txt.i_Work (by assumption)))
  | ((with_reducible show UL.CIsi _ _); first | exact Txt.i_Fill (by assumption) | exact Txt.i_Work (by assumption))
  | ((with_reducible show L2.NoAttr _ _ _); first | exact Txt.n_Fill_word (by assumption) | exact Txt.n_Fill_extent (by assumption) | exact Txt.n_Work_fills (by assumption))
  | ((with_reducible show L2.TyX _ _ _ _); first | exact UL.CIsi.ty (Txt.i_Fill (by assumption)) (by walk_at "look") | exact UL.CIsi.ty (Txt.i_Work (by assumption)) (by walk_at "look"))
  | ((with_reducible show PySem.W.kitOne _ (.type _) (.ref _) = _); first | exact ((Txt.k_Fill (by assumption)) _ (by simp)).1 | exact ((Txt.k_Work (by assumption)) _ (by simp)).1)
  | ((with_reducible show _ = PySem.Value.ref _ ∨ _); first | exact .inl rfl | exact .inr ⟨_, rfl, Txt.no_Fill (by assumption)⟩)
  | fail)
open K14M (RT okR plS plainR lastW rowB)
theorem RwAt.same {H H' : Hp} {l : Addr} {ts : List RT} (h : RwAt H l ts) (s : L2.Same H H') : RwAt H' l ts := by
  obtain ⟨rs, h1, h2, h3⟩ := h
  refine ⟨rs, s _ _ h1, h2, fun i u t a b => ?_⟩
  obtain ⟨c, e, h⟩ := h3 i u t a b
  exact ⟨c, e, s _ _ h⟩
theorem RwAt.ne {H : Hp} {p l : Addr} {ts : List RT} (h : RwAt H l ts) (hp : H p = none) : l ≠ p := by
  obtain ⟨rs, h1, _⟩ := h
  exact ne_of_none h1 hp
theorem RwAt.stay {H H' : Hp} {p l : Addr} {ts : List RT} (h : RwAt H l ts) (s : Stay p H H') (hp : Pot H p) (ne : l ≠ p) : RwAt H' l ts := by
  obtain ⟨rs, h1, h2, h3⟩ := h
  obtain ⟨x, y, ep, _⟩ := hp
  refine ⟨rs, s _ _ ne h1, h2, fun i u t a b => ?_⟩
  obtain ⟨c, e, h⟩ := h3 i u t a b
  exact ⟨c, e, s _ _ (fun z => by rw [z, ep] at h; cases h) h⟩
/-- a list's rows -/
def RowsL (H : Hp) (rs : List V) (ts : List RT) : Prop := rs.length = ts.length ∧ ∀ (i : Nat) (u : V) (t : RT), rs[i]? = some u → ts[i]? = some t → ∃ a, u = .ref a ∧ H a = some (.tup [.str (wdS t.1), .int t.2])
theorem RowsL.nil {H : Hp} : RowsL H [] [] := ⟨rfl, fun i u t e _ => by simp at e⟩
theorem RowsL.ev {H H' : Hp} {rs : List V} {ts : List RT} (h : RowsL H rs ts) (s : Ev H H') : RowsL H' rs ts := ⟨h.1, fun i u t a b => by
  obtain ⟨c, e, h⟩ := h.2 i u t a b
  exact ⟨c, e, s.tup h⟩⟩
theorem RowsL.app {H : Hp} {fs gs : List V} {ts us : List RT} (h : RowsL H fs ts) (g : RowsL H gs us) : RowsL H (fs ++ gs) (ts ++ us) := by
  refine ⟨by rw [List.length_append, List.length_append, h.1, g.1], fun i u t e1 e2 => ?_⟩
  by_cases c : i < fs.length
  · rw [List.getElem?_append_left c] at e1
    rw [List.getElem?_append_left (by rw [← h.1]; exact c)] at e2
    exact h.2 i u t e1 e2
  · rw [List.getElem?_append_right (by omega)] at e1
    rw [List.getElem?_append_right (by rw [← h.1]; omega), ← h.1] at e2
    exact g.2 _ u t e1 e2
theorem RowsL.one {H : Hp} {a : Addr} {t : RT} (h : H a = some (.tup [.str (wdS t.1), .int t.2])) : RowsL H [.ref a] [t] := ⟨rfl, fun i v s e1 e2 => by
  obtain rfl : i = 0 := by
    have := (List.getElem?_eq_some_iff.mp e1).1
    simpa using this
  cases e1
  cases e2
  exact ⟨a, rfl, h⟩⟩
theorem RwAt.of {H : Hp} {l : Addr} {rs : List V} {ts : List RT} (h1 : H l = some (.lst rs)) (h : RowsL H rs ts) : RwAt H l ts := ⟨rs, h1, h⟩
theorem RwAt.out {H : Hp} {l : Addr} {ts : List RT} (h : RwAt H l ts) : ∃ rs, H l = some (.lst rs) ∧ RowsL H rs ts := h
theorem RowsL.take {H : Hp} {rs : List V} {ts : List RT} (h : RowsL H rs ts) (n : Nat) : RowsL H (rs.take n) (ts.take n) := ⟨by rw [List.length_take, List.length_take, h.1], fun i u t a b => by
  rw [List.getElem?_take] at a b
  split at a
  · rename_i c
    rw [if_pos c] at b
    exact h.2 i u t a b
  · cases a⟩
theorem RowsL.drop {H : Hp} {rs : List V} {ts : List RT} (h : RowsL H rs ts) (n : Nat) : RowsL H (rs.drop n) (ts.drop n) := ⟨by rw [List.length_drop, List.length_drop, h.1], fun i u t a b => by
  rw [List.getElem?_drop] at a b
  exact h.2 _ u t a b⟩
/-- a row as data -/
def rwD (t : RT) : PyData := .tuple [.str (wdS t.1), .int t.2]
theorem rwD_eqv (x y : RT) : PyData.eqv (rwD x) (rwD y) = decide (x = y) := by
  obtain ⟨a, b⟩ := x
  obtain ⟨c, d⟩ := y
  have e : PyData.eqv (rwD (a, b)) (rwD (c, d)) = ((wdS a == wdS c) && ((b == d) && true)) := by simp only [rwD, PyData.eqv, PyData.eqvAll]
  rw [e]
  have w := wd_inj (a := a) (b := c)
  by_cases h1 : a = c <;> by_cases h2 : b = d <;> simp [h1, h2, w]
theorem rwDs_eqv : ∀ ts us : List RT, PyData.eqvAll (ts.map rwD) (us.map rwD) = decide (ts = us)
  | [], [] => by simp [PyData.eqvAll]
  | [], u :: us => by simp [PyData.eqvAll]
  | t :: ts, [] => by simp [PyData.eqvAll]
  | t :: ts, u :: us => by simp [PyData.eqvAll, rwDs_eqv ts us, rwD_eqv]
theorem rows_eqv (ts us : List RT) : PyData.eqv (.list (ts.map rwD)) (.list (us.map rwD)) = decide (ts = us) := by rw [eqv_list, rwDs_eqv]
theorem wd_lay (b : Bool) : (PyData.str (wdS b)).canLay0 = true := by cases b <;> decide +kernel
theorem rows_shaped (ts : List RT) : SeqAt.shaped (.list (ts.map rwD)) = true := shaped_list (k := 1) (fun d hd => by
  obtain ⟨t, _, rfl⟩ := List.mem_map.mp hd
  have := wd_lay t.1
  simp only [PyData.canLay0] at this
  simp [rwD, PyData.canLay0, PyData.canLayAll0, this]) (fun d hd => by
  obtain ⟨t, _, rfl⟩ := List.mem_map.mp hd
  simp [rwD, PyData.depth, PyData.depthAll]) (by decide)
theorem RwAt.dp {K : PySem.W.Frag} {H : Hp} {l : Addr} {ts : List RT} (h : RwAt H l ts) : Dp K H (.ref l) (.list (ts.map rwD)) := by
  obtain ⟨rs, h1, h2, h3⟩ := h
  refine .lst (SqL.of h1) (dpAll_at (by rw [List.length_map, h2]) fun j v d e1 e2 => ?_)
  rw [List.getElem?_map] at e2
  obtain ⟨t, et, rfl⟩ := Option.map_eq_some_iff.mp e2
  obtain ⟨a, rfl, ha⟩ := h3 j v t e1 et
  exact .tup (SqT.of ha) (.cons (.str _) (.cons (.int _) .nil))
def wdO : Option Bool → Str
  | none => ""
  | some b => wdS b
@[irreducible] def lastL (ts : List RT) : List V := (List.range 126).map fun k => V.str (wdO (lastW ts ((k : Nat) + 2)))
theorem range_filt {α : Type} (p : α → Bool) (g : α → V) (d : V) (ts : List α) : ((List.range ts.length).filter fun k => (ts[k]?).any p).map (fun k => (ts[k]?).elim d g) = (ts.filter p).map g := by
  suffices h : ∀ (us : List α), ((List.range us.length).filter fun k => ((us.reverse)[k]?).any p).map (fun k => ((us.reverse)[k]?).elim d g) = (us.reverse.filter p).map g by
    have := h ts.reverse
    rw [List.length_reverse, List.reverse_reverse] at this
    exact this
  intro us
  induction us with
  | nil => rfl
  | cons a us ih =>
    have el : us.reverse.length = us.length := List.length_reverse
    have c1 : ∀ k ∈ List.range us.length, ((us.reverse ++ [a])[k]?) = us.reverse[k]? := fun k hk => List.getElem?_append_left (by rw [el]; exact List.mem_range.mp hk)
    rw [List.length_cons, List.range_succ, List.reverse_cons, List.filter_append, List.filter_append, List.map_append, List.map_append]
    have f1 : ((List.range us.length).filter fun k => ((us.reverse ++ [a])[k]?).any p) = (List.range us.length).filter fun k => (us.reverse[k]?).any p := List.filter_congr fun k hk => by rw [c1 k hk]
    have f2 : (((List.range us.length).filter fun k => (us.reverse[k]?).any p).map fun k => ((us.reverse ++ [a])[k]?).elim d g) = ((List.range us.length).filter fun k => (us.reverse[k]?).any p).map fun k => (us.reverse[k]?).elim d g := List.map_congr_left fun k hk => by rw [c1 k (List.mem_filter.mp hk).1]
    have e9 : (us.reverse ++ [a])[us.length]? = some a := by rw [← el]; simp
    rw [f1, f2, ih]
    congr 1
    cases hp : p a with
    | true => simp [e9, hp]
    | false => simp [e9, hp]
theorem K14M_len (f : Int → Option Bool) : ∀ k : Nat, (K14M.lawR f k).length ≤ k
  | 0 => Nat.le_refl _
  | k + 1 => by
    have ih := K14M_len f k
    have h : (K14M.turnE f k).length ≤ 1 := by
      unfold K14M.turnE
      split
      · split
        · exact Nat.le_refl _
        · exact Nat.zero_le _
      · exact Nat.zero_le _
    show (K14M.turnE f k ++ K14M.lawR f k).length ≤ k + 1
    rw [List.length_append]
    omega
theorem plain_step {H H' : Hp} {T z p : Addr} {w : Bool} {e : Int} {rs : List V} {us : List RT} {M W : Addr} {xs : List V} {C : Prop} (s : L2.Same H H') (hM : H M = none) (hr1 : RowsL H' rs us) (hW : H' W = some (.lst xs)) (hT : H' T = none) (hz : upd H' T (.tup [.str (wdS w), .int e]) z = none)
    (hp : upd (upd H' T (.tup [.str (wdS w), .int e])) z (.lst [.ref T]) p = none)
    (k : H p = none → upd (upd (upd H' T (.tup [.str (wdS w), .int e])) z (.lst [.ref T])) p (.lst ([.ref T] ++ rs)) p = some (.lst ([.ref T] ++ rs)) → RowsL (upd (upd (upd H' T (.tup [.str (wdS w), .int e])) z (.lst [.ref T])) p (.lst ([.ref T] ++ rs))) ([.ref T] ++ rs) ([(w, e)] ++ us) →
      upd (upd (upd H' T (.tup [.str (wdS w), .int e])) z (.lst [.ref T])) p (.lst ([.ref T] ++ rs)) W = some (.lst xs) → L2.Same H (upd (upd (upd H' T (.tup [.str (wdS w), .int e])) z (.lst [.ref T])) p (.lst ([.ref T] ++ rs))) → C) : C := by
  have s1 := (same_new (o := .tup [.str (wdS w), .int e]) hT)
  have s2 := (same_new (o := .lst [.ref T]) hz)
  have s3 := (same_new (o := .lst ([.ref T] ++ rs)) hp)
  have sa := s1.trans (s2.trans s3)
  exact k (UL.Same.none s (UL.Same.none s1 (UL.Same.none s2 hp))) upd_same ((RowsL.one (s3 _ _ (s2 _ _ upd_same))).app (hr1.ev (Ev.same sa))) (sa _ _ hW) (s.trans sa)
theorem wdO_inj {a b : Option Bool} : wdO a = wdO b ↔ a = b := by
  rcases a with _ | _ | _ <;> rcases b with _ | _ | _ <;> decide
theorem wdO_lay (a : Option Bool) : (PyData.str (wdO a)).canLay0 = true := by rcases a with _ | _ | _ <;> decide +kernel
def lastD (ts : List RT) : PyData := .list ((List.range 126).map fun k => PyData.str (wdO (lastW ts ((k : Nat) + 2))))
theorem eqv_by {f g : Nat → Str} : ∀ l : List Nat, PyData.eqvAll (l.map fun k => PyData.str (f k)) (l.map fun k => PyData.str (g k)) = l.all fun k => decide (f k = g k)
  | [] => by simp [PyData.eqvAll]
  | k :: l => by
    have ih := eqv_by (f := f) (g := g) l
    simp only [List.map_cons, PyData.eqvAll, PyData.eqv, ih, List.all_cons]
    by_cases h : f k = g k <;> simp [h]
theorem last_eqv {ts us : List RT} (h1 : ∀ t ∈ ts, okR t) (h2 : ∀ t ∈ us, okR t) : PyData.eqv (lastD ts) (lastD us) = decide (plainR ts = plainR us) := by
  unfold lastD
  rw [eqv_list, eqv_by, Bool.eq_iff_iff, List.all_eq_true, decide_eq_true_iff, K14M.plain_fix h1 h2]
  constructor
  · intro h k hk
    exact wdO_inj.mp (of_decide_eq_true (h k (List.mem_range.mpr hk)))
  · intro h k hk
    exact decide_eq_true (wdO_inj.mpr (h k (List.mem_range.mp hk)))
theorem last_shaped (ts : List RT) : SeqAt.shaped (lastD ts) = true := shaped_list (k := 1) (fun d hd => by
  obtain ⟨t, _, rfl⟩ := List.mem_map.mp hd
  exact wdO_lay _) (fun d hd => by
  obtain ⟨t, _, rfl⟩ := List.mem_map.mp hd
  simp [PyData.depth]) (by decide)
theorem last_dp {K : PySem.W.Frag} {H : Hp} {l : Addr} {ts : List RT} (h : H l = some (.lst (lastL ts))) : Dp K H (.ref l) (lastD ts) := by
  refine .lst (SqL.of h) (dpAll_at (by simp [lastL]) fun j v d e1 e2 => ?_)
  unfold lastL at e1
  rw [List.getElem?_map] at e1 e2
  obtain ⟨k, ek, rfl⟩ := Option.map_eq_some_iff.mp e1
  obtain ⟨k', ek', rfl⟩ := Option.map_eq_some_iff.mp e2
  rw [ek] at ek'
  cases ek'
  exact .str _
section
variable {P : Program} {w : World} {K : PySem.W.Frag} {mg : Str → Option Value} {base : Heap} {ad : Ad}
/-- _law_rows(pot, size) -/
def spRows : Sp := fun vs H Q _ => ∃ (p : Addr) (n : Nat), vs = [.ref p, .int (n : Nat)] ∧ Pot H p ∧ n ≤ 20 ∧ ∀ (l : Addr) (ts : List RT) (H' : Hp), H l = none → RwAt H' l ts → ts.length = n → (∀ t ∈ ts, okR t) → Pot H' p → Stay p H H' → Q (.ref l) H'
abbrev st_l_rows : Stmt := top 30
theorem sc_l_rows : FnScope ["_law_pot_here", "_law_size", "_law_near", "_law_found", "_law_k", "_law_reach"] ["_law_pot_here", "_law_size"] (defScope st_l_rows) := ⟨rfl, rfl, rfl, by decide +kernel, rfl, by decide +kernel, by decide +kernel⟩
theorem ok_l_rows {f : Addr} {fd : FuncData} (F : Fun K "_law_rows" "_law_rows" st_l_rows f fd) (T : Txt K mg ad) (c_l_draw : Cal P w K mg base 1 "_law_draw" spDraw) (c_l_pick : Cal P w K mg base 2 "_law_pick" (spPick1 K)) :
    FnOk P w K mg base CX0 3 f fd ["_law_pot_here", "_law_size"] (spRows) := by
  refine F.ok sc_l_rows (fun vs H Q E h => ?_) (fun cdv A outer s H vs Q E hr h => ?_)
  · obtain (⟨p, n, rfl, hp, hn, q⟩) := h
    rfl
  · obtain (⟨p, n, rfl, hp, hn, q⟩) := h
    refine ⟨_, pss_cons (ps_par (i := 2) (j := 3) rfl sc_l_rows.nd rfl rfl (by decide) rfl rfl (pa_cons (pe_op op_add pe_int (pe_c c_l_draw hr (by decide) (by rfl) (pa_cons (pv 0) (pa_cons pe_int pa_nil)))) (pa_cons (pe_lst pa_nil) pa_nil)) (by rfl))
      (pss_cons (ps_for PassesOwn.never rfl (pi_range1 (by rfl) T.bi.range (pa_cons (pv 1) pa_nil)) (pg_name (i := 4) sc_l_rows.nd rfl (Or.inl rfl))
        (pss_cons (ps_set (i := 5) sc_l_rows.nd rfl (.inl rfl) (pe_c c_l_pick hr (by decide) (by rfl) (pa_cons (pv 0) (pa_cons (pe_lst (pa_cons (pv 2) (pa_cons (pe_op op_add (pv 2) pe_int) (pa_cons (pe_op op_add (pv 2) pe_int) (pa_cons (pe_op op_add pe_int (pe_c c_l_draw hr (by decide) (by rfl) (pa_cons (pv 0) (pa_cons pe_int pa_nil)))) (pa_cons (pe_op op_add pe_int (pe_c c_l_draw hr (by decide) (by rfl) (pa_cons (pv 0) (pa_cons pe_int pa_nil)))) pa_nil)))))) pa_nil))))
          (pss_one (ps_expr (pe_bm PySem.F.plainAttrs_list PySem.F.slot_list_append PySem.F.type_list_append mt_append (pv 3) (pa_cons (pe_tup (pa_cons (pe_c c_l_pick hr (by decide) (by rfl) (pa_cons (pv 0) (pa_cons (pe_lst (pa_cons pe_str (pa_cons pe_str pa_nil))) pa_nil))) (pa_cons (pv 5) pa_nil))) pa_nil))))))
      (pss_one (ps_ret (pv 3)))), ?_⟩
    walk_at "go"
    rename_i d H1 hd0 hd1 hp1 st1 L hL
    have hL0 : H L = none := Stay.none st1 hp1 hL
    refine for_it (walk_range (lo := 0) (n := n)) (fun i σ H' => Hold (∃ rs ts z u, σ = [some (.ref p), some (.int (n : Nat)), some (.int (3 + d)), some (.ref L), z, u] ∧ H' L = some (.lst rs) ∧ RowsL H' rs ts ∧ ts.length = i ∧ (∀ t ∈ ts, okR t) ∧ Pot H' p ∧ Stay p H H')) (Hold.mk ⟨[], [], _, _, rfl, upd_same, RowsL.nil, rfl, (fun _ h => by cases h), hp1.same (same_new hL), st1.trans (UL.Same.stay (same_new hL) p)⟩) (fun _ _ _ _ _ => trivial) (fun i y σ H2 H' hi hh hy => ?_) (fun σ H2 hh => ?_)
    · obtain ⟨rs, ts, z, u, es, hM, hr1, et, ho, hp2, st2⟩ := hh.out
      clear hh
      subst es
      obtain ⟨rfl, rfl⟩ := hy
      walk_at "go"
      rename_i d1 H3 e0 e1 hp3 st3 d2 H4 f0 f1 hp4 st4 l5 hl5 j v5 H5 hj hp5 st5 l6 hl6 k v6 H6 hk hp6 st6 T hT
      have nLp : L ≠ p := by
        obtain ⟨x, y, ep, _⟩ := id hp
        exact (ne_of_none ep hL0).symm
      have hv5 : ∃ e : Int, v5 = .int e ∧ 3 ≤ e ∧ e ≤ 128 := by
        clear st5 hk st6
        dsimp only at hj
        match j, hj with
        | 0, hj => cases hj; exact ⟨_, rfl, by omega, by omega⟩
        | 1, hj => cases hj; exact ⟨_, rfl, by omega, by omega⟩
        | 2, hj => cases hj; exact ⟨_, rfl, by omega, by omega⟩
        | 3, hj => cases hj; exact ⟨_, rfl, by omega, by omega⟩
        | 4, hj => cases hj; exact ⟨_, rfl, by omega, by omega⟩
        | n + 5, hj => cases hj
      have hv6 : ∃ b : Bool, v6 = .str (wdS b) := by
        match k, hk with
        | 0, hk => cases hk; exact ⟨false, rfl⟩
        | 1, hk => cases hk; exact ⟨true, rfl⟩
        | n + 2, hk => cases hk
      obtain ⟨e, rfl, ge0, ge1⟩ := hv5
      obtain ⟨b, rfl⟩ := hv6
      have sAll : Stay p H' H6 := by walk_at "stay"
      have hM6 : H6 L = some (.lst rs) := sAll _ _ nLp hM
      have hr6 := hr1.ev (Ev.stay sAll hp2 hp6)
      have hM7 : upd H6 T (.tup [.str (wdS b), .int e]) L = some (.lst rs) := same_new hT _ _ hM6
      have ev7 : Ev H6 (upd (upd H6 T (.tup [.str (wdS b), .int e])) L (.lst (rs ++ [.ref T]))) := (Ev.new hT).trans (Ev.put hM7)
      have nTL : T ≠ L := (ne_of_none hM6 hT).symm
      have hlr := hr1.1
      refine ⟨line_gt (by omega), Hold.mk ⟨rs ++ [.ref T], ts ++ [(b, e)], _, _, rfl, upd_same, (hr6.ev ev7).app (RowsL.one ?_), by rw [List.length_append, et]; rfl, fun t ht => ?_, ?_, ?_⟩⟩
      · rw [upd_ne nTL]
        exact upd_same
      · rcases List.mem_append.mp ht with h | h
        · exact ho t h
        · rw [List.mem_singleton.mp h]
          exact ⟨ge0, ge1⟩
      · obtain ⟨x, y, ep, c1, c2⟩ := hp6.same (same_new (o := .tup [.str (wdS b), .int e]) hT)
        exact ⟨x, y, by rw [upd_ne nLp.symm]; exact ep, c1, c2⟩
      · exact (st2.trans (sAll.trans (UL.Same.stay (same_new hT) p))).over hL0
    · obtain ⟨rs, ts, z, u, es, hM, hr1, et, ho, hp2, st2⟩ := hh.out
      clear hh
      subst es
      walk_at "go"
      exact q L ts _ hL0 (RwAt.of hM hr1) et ho hp2 st2
/-- _law_last(rows) -/
def spLast : Sp := fun vs H Q _ => ∃ (l : Addr) (ts : List RT), vs = [.ref l] ∧ RwAt H l ts ∧ ts.length ≤ 126 ∧ ∀ (L : Addr) (H' : Hp), H L = none → H' L = some (.lst (lastL ts)) → L2.Same H H' → Q (.ref L) H'
abbrev st_l_last : Stmt := top 32
theorem sc_l_last : FnScope ["_law_rows_now", "_law_found", "_law_bit", "_law_words", "_law_word", "_law_reach"] ["_law_rows_now"] (defScope st_l_last) := ⟨rfl, rfl, rfl, by decide +kernel, rfl, by decide +kernel, by decide +kernel⟩
theorem ok_l_last {f : Addr} {fd : FuncData} (F : Fun K "_law_last" "_law_last" st_l_last f fd) (T : Txt K mg ad)  :
    FnOk P w K mg base CX0 1 f fd ["_law_rows_now"] (spLast) := by
  refine F.ok sc_l_last (fun vs H Q E h => ?_) (fun cdv A outer s H vs Q E hr h => ?_)
  · obtain (⟨l, ts, rfl, ⟨rs, h1, h2, h3⟩, hl, q⟩) := h
    rfl
  · obtain (⟨l, ts, rfl, ⟨rs, h1, h2, h3⟩, hl, q⟩) := h
    refine ⟨_, pss_cons (ps_set (i := 1) sc_l_last.nd rfl (.inl rfl) (pe_lst pa_nil))
      (pss_cons (ps_for PassesOwn.never rfl (pi_range2 (by rfl) T.bi.range (pa_cons pe_int (pa_cons pe_int pa_nil))) (pg_name (i := 2) sc_l_last.nd rfl (Or.inr rfl))
        (pss_cons (ps_setLc (i := 3) (own := [("_law_word", 4), ("_law_reach", 5)]) (g := gTup K 2 (gCons (gName 4) (gCons (gName 5) gNil))) (tt := _) rfl sc_l_last.nd rfl rfl (sw_true rfl rfl rfl (by decide +kernel)) (pi_list (pv 0)) (blkOk_by (N := ["_law_rows_now", "_law_found", "_law_bit", "_law_words", "_law_word", "_law_reach"]) (sc := defScope st_l_last) (by decide +kernel)) (fun _ _ _ _ _ => pg_tup rfl (pgs_cons (pg_name (i := 4) sc_l_last.nd rfl (Or.inl rfl)) (pgs_cons (pg_name (i := 5) sc_l_last.nd rfl (Or.inl rfl)) pgs_nil))) (fun _ _ _ _ _ => UL.pts_conv (pts_one (pt_cmpR op_lt (pv 2) (pv 5) (nomark _))) (by walk_at "unk")) (fun _ _ _ _ _ => UL.pe_conv (pv 4) (by walk_at "unk")))
          (pss_one (ps_expr (pe_bm PySem.F.plainAttrs_list PySem.F.slot_list_append PySem.F.type_list_append mt_append (pv 1) (pa_cons (pe_ifExp (pt_cmpR (op_ne0 hr.units) (pv 3) (pe_lst pa_nil) (nomark _)) (pe_ix ix_list (pv 3) (pe_un un_neg pe_int) (fun _ _ => rfl)) pe_str) pa_nil))))))
      (pss_one (ps_ret (pv 1)))), ?_⟩
    walk_at "go"
    rename_i L hL
    refine for_it (walk_range (lo := 2) (n := 126)) (fun i σ H' => Hold (∃ a b c e, σ = [some (.ref l), some (.ref L), a, b, c, e] ∧ H' L = some (.lst ((List.range i).map fun k => V.str (wdO (lastW ts ((k : Nat) + 2))))) ∧ L2.Same H H')) (Hold.mk ⟨_, _, _, _, rfl, upd_same, same_new hL⟩) (fun _ _ _ _ _ => trivial) (fun i y σ H2 H' hi hh hy => ?_) (fun σ H2 hh => ?_)
    · obtain ⟨a, b, c, e, es, hM, s2⟩ := hh.out
      clear hh
      subst es
      obtain ⟨rfl, rfl⟩ := hy
      walk_at "go"
      have hrs := s2 _ _ h1
      refine ⟨⟨_, SqL.of hrs⟩, fun D hD => ?_⟩
      refine lc_filt (walk_list (xs := rs)) hD (fun k => (ts[k]?).any fun t => decide (2 + (i : Int) < t.2)) (fun k => (ts[k]?).elim V.non fun t => .str (wdS t.1)) (by omega) (fun H3 s3 => SqL.of (s3 _ _ hrs)) (fun k x H3 H4 hk s3 hy R Z hR hZ => ?_) (fun H3 s3 hD3 => ?_)
      · obtain ⟨rfl, hy⟩ := hy
        have lk : k < ts.length := by omega
        have et : ts[k]? = some ts[k] := List.getElem?_eq_getElem lk
        obtain ⟨ta, rfl, hta⟩ := h3 k x _ hy et
        have hta2 := s3 _ _ (s2 _ _ hta)
        rw [et] at hR hZ
        walk_at "go"
        dsimp only
        cases hc : decide (2 + (i : Int) < ts[k].2) with
        | true =>
          rw [if_pos rfl]
          exact ⟨_, rfl, hR hc _ (L2.Same.refl _)⟩
        | false =>
          rw [if_neg Bool.false_ne_true]
          exact hZ hc _ (L2.Same.refl _)
      · have ef : ((List.range rs.length).filter fun k => (ts[k]?).any fun t => decide (2 + (i : Int) < t.2)).map (fun k => (ts[k]?).elim V.non fun t => .str (wdS t.1)) = (ts.filter fun t => decide (2 + (i : Int) < t.2)).map fun t => V.str (wdS t.1) := by
          rw [h2]
          exact range_filt _ _ _ ts
        rw [ef] at hD3
        have el := K14M.last_filter ts (2 + (i : Int))
        have hM3 := s3 _ _ hM
        have goal2 : (List.range (i + 1)).map (fun k => V.str (wdO (lastW ts ((k : Nat) + 2)))) = (List.range i).map (fun k => V.str (wdO (lastW ts ((k : Nat) + 2)))) ++ [V.str (wdO (lastW ts (2 + (i : Int))))] := by
          rw [List.range_succ, List.map_append, Int.add_comm 2]
          rfl
        have nLD : L ≠ D := ne_of_none hM hD
        rcases K14M.nil_snoc (ts.filter fun t => decide (2 + (i : Int) < t.2)) with e0 | ⟨us, t, e0⟩
        · rw [e0] at hD3 el
          have el2 : lastW ts (2 + (i : Int)) = none := el
          rw [el2] at goal2
          walk_at "go"
          rename_i z hz
          refine Hold.mk ⟨_, _, _, _, rfl, ?_, fun b o e => ?_⟩
          · rw [goal2, upd_same]
            rfl
          · rw [upd_ne (ne_of_none e hL)]
            exact same_new hz _ _ (s3 _ _ (s2 _ _ e))
        · rw [e0] at hD3 el
          rw [List.map_append] at hD3
          have at1 : atI (us.map (fun t => V.str (wdS t.1)) ++ [t].map fun t => V.str (wdS t.1)) (-1) = some (V.str (wdS t.1)) := atI_last _ _
          have el2 : lastW ts (2 + (i : Int)) = some t.1 := by rw [el]; simp
          rw [el2] at goal2
          walk_at "go"
          rename_i z hz
          refine Hold.mk ⟨_, _, _, _, rfl, ?_, fun b o e => ?_⟩
          · rw [goal2, upd_same]
            rfl
          · rw [upd_ne (ne_of_none e hL)]
            exact same_new hz _ _ (s3 _ _ (s2 _ _ e))
    · obtain ⟨a, b, c, e, es, hM, s2⟩ := hh.out
      clear hh
      subst es
      walk_at "go"
      refine q L _ hL ?_ s2
      unfold lastL
      exact hM
/-- _law_plain(rows) -/
def spLPlain : Sp := fun vs H Q _ => ∃ (l : Addr) (ts : List RT), vs = [.ref l] ∧ RwAt H l ts ∧ ts.length ≤ 126 ∧ (∀ t ∈ ts, okR t) ∧ ∀ (L : Addr) (H' : Hp), H L = none → RwAt H' L (plainR ts) → L2.Same H H' → Q (.ref L) H'
abbrev st_l_plain : Stmt := top 33
theorem sc_l_plain : FnScope ["_law_rows_now", "_law_words", "_law_found", "_law_k", "_law_is_end"] ["_law_rows_now"] (defScope st_l_plain) := ⟨rfl, rfl, rfl, by decide +kernel, rfl, by decide +kernel, by decide +kernel⟩
theorem ok_l_plain {f : Addr} {fd : FuncData} (F : Fun K "_law_plain" "_law_plain" st_l_plain f fd) (T : Txt K mg ad) (c_l_last : Cal P w K mg base 1 "_law_last" (spLast)) :
    FnOk P w K mg base CX0 2 f fd ["_law_rows_now"] (spLPlain) := by
  refine F.ok sc_l_plain (fun vs H Q E h => ?_) (fun cdv A outer s H vs Q E hr h => ?_)
  · obtain (⟨l, ts, rfl, hR, hl, ho, q⟩) := h
    rfl
  · obtain (⟨l, ts, rfl, hR, hl, ho, q⟩) := h
    refine ⟨_, pss_cons (ps_par (i := 1) (j := 2) rfl sc_l_plain.nd rfl rfl (by decide) rfl rfl (pa_cons (pe_c c_l_last hr (by decide) (by rfl) (pa_cons (pv 0) pa_nil)) (pa_cons (pe_lst pa_nil) pa_nil)) (by rfl))
      (pss_cons (ps_for PassesOwn.never rfl (pi_range1 (by rfl) T.bi.range (pa_cons (pe_callB call_len_seq (by rfl) T.bi.len (by decide +kernel) (pa_cons (pv 1) pa_nil)) pa_nil)) (pg_name (i := 3) sc_l_plain.nd rfl (Or.inl rfl))
        (pss_cons (ps_set (i := 4) sc_l_plain.nd rfl (.inl rfl) (pe_or (pe_cmpR op_eq (pe_op op_add (pv 3) pe_int) (pe_callB call_len_seq (by rfl) T.bi.len (by decide +kernel) (pa_cons (pv 1) pa_nil)) (nomark _)) (pe_one (pe_cmpR op_ne (pe_ix ix_list (pv 1) (pe_op op_add (pv 3) pe_int) (fun _ _ => rfl)) (pe_ix ix_list (pv 1) (pv 3) (fun _ _ => rfl)) (nomark _)))))
          (pss_one (ps_if (PW.pt (pw_and (pt_cmpR op_ne (pe_ix ix_list (pv 1) (pv 3) (fun _ _ => rfl)) pe_str (nomark _)) (pw_and1 (pt_val (pv 4))))) (pss_one (ps_set (i := 2) sc_l_plain.nd rfl (.inl rfl) (pe_op op_cat (pe_lst (pa_cons (pe_tup (pa_cons (pe_ix ix_list (pv 1) (pv 3) (fun _ _ => rfl)) (pa_cons (pe_op op_add (pv 3) pe_int) pa_nil))) pa_nil)) (pv 2)))) pss_nil))))
      (pss_one (ps_ret (pv 2)))), ?_⟩
    walk_at "go"
    rename_i W H1 hW0 hW s1 L hL
    have lw : (lastL ts).length = 126 := by simp [lastL]
    rw [lw]
    have hL0 : H L = none := UL.Same.none s1 hL
    refine ⟨by decide, for_it (walk_range (lo := 0) (n := 126)) (fun i σ H' => Hold (∃ M rs a b, σ = [some (.ref l), some (.ref W), some (.ref M), a, b] ∧ H M = none ∧ H' M = some (.lst rs) ∧ RowsL H' rs (K14M.lawR (lastW ts) i) ∧ H' W = some (.lst (lastL ts)) ∧ L2.Same H H')) (Hold.mk ⟨L, [], _, _, rfl, hL0, upd_same, RowsL.nil, same_new hL _ _ hW, s1.trans (same_new hL)⟩) (fun _ _ _ _ _ => trivial) (fun i y σ H2 H' hi hh hy => ?_) (fun σ H2 hh => ?_)⟩
    · obtain ⟨M, rs, a, b, es, hM0, hM, hr1, hW2, s2⟩ := hh.out
      clear hh
      subst es
      obtain ⟨rfl, rfl⟩ := hy
      walk_at "go"
      dsimp only
      rw [Int.zero_add]
      have g : ∀ j : Nat, j < 126 → atI (lastL ts) ((j : Nat) : Int) = some (.str (wdO (lastW ts ((j : Nat) + 2)))) := fun j hj => by
        refine atI_nat ?_
        unfold lastL
        rw [List.getElem?_map, List.getElem?_range hj]
        rfl
      have at0 := g i hi
      have hlr := K14M_len (lastW ts) i
      rw [← hr1.1] at hlr
      have lR : K14M.lawR (lastW ts) (i + 1) = K14M.turnE (lastW ts) i ++ K14M.lawR (lastW ts) i := rfl
      by_cases c : i + 1 = 126
      · rw [decide_eq_true (show V.int ((i : Int) + 1) = V.int ((lastL ts).length : Int) by rw [lw]; congr 1; omega)]
        refine iteT ?_
        cases ew : lastW ts ((i : Nat) + 2) with
        | none =>
          rw [ew] at at0
          have eT : K14M.turnE (lastW ts) i = [] := by unfold K14M.turnE; rw [ew]
          rw [eT, List.nil_append] at lR
          walk_at "go"
          exact Hold.mk ⟨_, _, _, _, rfl, hM0, hM, by rw [lR]; exact hr1, hW2, s2⟩
        | some w =>
          rw [ew] at at0
          have eT : K14M.turnE (lastW ts) i = [(w, (i : Int) + 3)] := by unfold K14M.turnE; rw [ew]; exact if_pos (.inl c)
          rw [eT] at lR
          have nw : decide (V.str (wdS w) = V.str "") = false := by cases w <;> decide
          walk_at "go"
          rename_i T hT z hz p hp
          exact plain_step s2 hM0 hr1 hW2 hT hz hp fun a1 a2 a3 a4 a5 => Hold.mk ⟨_, _, _, _, rfl, a1, a2, by rw [lR]; exact a3, a4, a5⟩
      · rw [decide_eq_false (show ¬ V.int ((i : Int) + 1) = V.int ((lastL ts).length : Int) by rw [lw]; intro z; injection z with z; omega)]
        have at1 := g (i + 1) (by omega)
        rw [show (((i + 1 : Nat) : Nat) : Int) = (i : Int) + 1 by omega, show (i : Int) + 1 + 2 = i + 3 by omega] at at1
        refine iteF ?_
        cases ew : lastW ts ((i : Nat) + 2) with
        | none =>
          rw [ew] at at0
          have eT : K14M.turnE (lastW ts) i = [] := by unfold K14M.turnE; rw [ew]
          rw [eT, List.nil_append] at lR
          walk_at "go"
          exact Hold.mk ⟨_, _, _, _, rfl, hM0, hM, by rw [lR]; exact hr1, hW2, s2⟩
        | some w =>
          rw [ew] at at0
          have nw : decide (V.str (wdS w) = V.str "") = false := by cases w <;> decide
          by_cases d : lastW ts ((i : Nat) + 3) = some w
          · have eT : K14M.turnE (lastW ts) i = [] := by unfold K14M.turnE; rw [ew]; exact if_neg (fun z => z.elim c fun z => z d)
            rw [eT, List.nil_append] at lR
            rw [d] at at1
            walk_at "go"
            exact Hold.mk ⟨_, _, _, _, rfl, hM0, hM, by rw [lR]; exact hr1, hW2, s2⟩
          · have eT : K14M.turnE (lastW ts) i = [(w, (i : Int) + 3)] := by unfold K14M.turnE; rw [ew]; exact if_pos (.inr d)
            rw [eT] at lR
            have nd : decide (V.str (wdO (lastW ts ((i : Nat) + 3))) = V.str (wdO (some w))) = false := decide_eq_false fun z => d (wdO_inj.mp (V.str.inj z))
            walk_at "go"
            rename_i T hT z hz p hp
            exact plain_step s2 hM0 hr1 hW2 hT hz hp fun a1 a2 a3 a4 a5 => Hold.mk ⟨_, _, _, _, rfl, a1, a2, by rw [lR]; exact a3, a4, a5⟩
    · obtain ⟨M, rs, a, b, es, hM0, hM, hr1, hW2, s2⟩ := hh.out
      clear hh
      subst es
      walk_at "go"
      rw [K14M.law_plain ho] at hr1
      exact q M _ hM0 (RwAt.of hM hr1) s2
/-- _law_parts(work) -/
def spParts (ad : Ad) : Sp := fun vs H Q _ => ∃ (v : V) (ts : List RT), vs = [v] ∧ WkAt ad H v ts ∧ ∀ (L : Addr) (H' : Hp), H L = none → RwAt H' L ts → L2.Same H H' → Q (.ref L) H'
abbrev st_l_parts : Stmt := top 34
theorem sc_l_parts : FnScope ["_law_made_here", "_law_fill"] ["_law_made_here"] (defScope st_l_parts) := ⟨rfl, rfl, rfl, by decide +kernel, rfl, by decide +kernel, by decide +kernel⟩
theorem ok_l_parts {f : Addr} {fd : FuncData} (F : Fun K "_law_parts" "_law_parts" st_l_parts f fd) (T : Txt K mg ad) (c_Work_fills : CalM P w K mg base 1 ad.c_Work "fills" (spWFills ad)) (c_Fill_word : CalP P w K mg base 1 ad.c_Fill "word" (spFGet ad fun w _ => .str w)) (c_Fill_extent : CalP P w K mg base 1 ad.c_Fill "extent" (spFGet ad fun _ e => e)) :
    FnOk P w K mg base CX0 3 f fd ["_law_made_here"] (spParts ad) := by
  refine F.ok sc_l_parts (fun vs H Q E h => ?_) (fun cdv A outer s H vs Q E hr h => ?_)
  · obtain (⟨v, ts, rfl, hW, q⟩) := h
    rfl
  · obtain (⟨v, ts, rfl, hW, q⟩) := h
    refine ⟨_, pss_one (ps_ret (pe_lc (own := [("_law_fill", 1)]) (g := gName 1) (tt := tYes) rfl sc_l_parts.nd (pi_list (pe_m0 (pv 0) c_Work_fills hr (by decide))) (blkOk_by (N := ["_law_made_here", "_law_fill"]) (sc := defScope st_l_parts) (by decide +kernel)) (fun _ _ _ _ _ => pg_name (i := 1) sc_l_parts.nd rfl (Or.inl rfl)) (fun _ _ _ _ _ => pts_nil) (fun _ _ _ _ _ => UL.pe_conv (pe_tup (pa_cons (pe_p (pv 1) c_Fill_word hr (by decide) (by rfl)) (pa_cons (pe_p (pv 1) c_Fill_extent hr (by decide) (by rfl)) pa_nil))) (by walk_at "unk")))), ?_⟩
    obtain ⟨a, dx, tp, fs, rfl, h1, h2, h3, h4, h5⟩ := id hW
    walk_at "go"
    rename_i l gs H1 hl0 hL hG s1
    refine ⟨⟨_, SqL.of hL⟩, fun D hD => ?_⟩
    refine lc_made (walk_list (xs := gs)) hD (fun i v H' => ∃ t, ts[i]? = some t ∧ ∃ a, a ≠ D ∧ v = .ref a ∧ H' a = some (.tup [.str (wdS t.1), .int t.2])) (fun i v H' H2 ⟨t, et, a, nd, ea, ha⟩ st => ?_) (by rw [hG.1]; omega) (fun H' s => SqL.of (s _ _ hL)) (fun i x H2 H' hi s2 hd2 hy Z hZ => ?_) (fun H2 ys hl2 hys s2 hD2 => ?_)
    · exact ⟨t, et, a, nd, ea, st _ _ nd ha⟩
    · obtain ⟨rfl, hy⟩ := hy
      have li : i < ts.length := by rw [← hG.1]; exact hi
      have et : ts[i]? = some ts[i] := List.getElem?_eq_getElem li
      have hF := (hG.ev (Ev.same s2)).2 i x _ hy et
      obtain ⟨fa, dfa, rfl, hfa⟩ := id hF
      obtain ⟨xd, hxd⟩ := hd2
      walk_at "go"
      rename_i T hT
      exact hZ _ _ ⟨_, et, T, (ne_of_none hxd hT).symm, rfl, upd_same⟩ (same_new hT)
    · refine q D _ (UL.Same.none s1 hD) ⟨ys, hD2, by rw [hl2, hG.1], fun i u t a b => ?_⟩ (s1.trans s2)
      obtain ⟨t', et, h⟩ := hys i u a
      rw [b] at et
      cases et
      obtain ⟨a9, _, h⟩ := h
      exact ⟨a9, h⟩
/-- _law_row(pot) -/
def spLRow : Sp := fun vs H Q _ => ∃ (p : Addr), vs = [.ref p] ∧ Pot H p ∧ ∀ (l : Addr) (xs : List Bt) (H' : Hp), H l = none → H' l = some (.lst (xs.map bV)) → xs.length ≤ 128 → Pot H' p → Stay p H H' → Q (.ref l) H'
abbrev st_l_row : Stmt := top 35
theorem sc_l_row : FnScope ["_law_pot_here", "_law_turn"] ["_law_pot_here"] (defScope st_l_row) := ⟨rfl, rfl, rfl, by decide +kernel, rfl, by decide +kernel, by decide +kernel⟩
theorem ok_l_row {f : Addr} {fd : FuncData} (F : Fun K "_law_row" "_law_row" st_l_row f fd) (T : Txt K mg ad) (c_l_pick : Cal P w K mg base 2 "_law_pick" (spPick1 K)) :
    FnOk P w K mg base CX0 3 f fd ["_law_pot_here"] (spLRow) := by
  refine F.ok sc_l_row (fun vs H Q E h => ?_) (fun cdv A outer s H vs Q E hr h => ?_)
  · obtain (⟨p, rfl, hp, q⟩) := h
    rfl
  · obtain (⟨p, rfl, hp, q⟩) := h
    refine ⟨_, pss_one (ps_ret (pe_lc (own := [("_law_turn", 1)]) (g := gName 1) (tt := tYes) rfl sc_l_row.nd (pi_range1 (by rfl) T.bi.range (pa_cons (pe_c c_l_pick hr (by decide) (by rfl) (pa_cons (pv 0) (pa_cons (pe_lst (pa_cons pe_int (pa_cons pe_int (pa_cons pe_int (pa_cons pe_int pa_nil))))) pa_nil))) pa_nil)) (blkOk_by (N := ["_law_pot_here", "_law_turn"]) (sc := defScope st_l_row) (by decide +kernel)) (fun _ _ _ _ _ => pg_name (i := 1) sc_l_row.nd rfl (Or.inl rfl)) (fun _ _ _ _ _ => pts_nil) (fun _ _ _ _ _ => UL.pe_conv (pe_c c_l_pick hr (by decide) (by rfl) (pa_cons (pv 0) (pa_cons (pe_lst (pa_cons pe_int (pa_cons pe_int (pa_cons pe_non pa_nil)))) pa_nil))) (by walk_at "unk")))), ?_⟩
    walk_at "go"
    rename_i l0 hl0 i v H1 hi hp1 st1
    have hv : ∃ n : Nat, n ≤ 128 ∧ v = .int (n : Nat) := by
      match i, hi with
      | 0, hi => cases hi; exact ⟨2, by decide, rfl⟩
      | 1, hi => cases hi; exact ⟨9, by decide, rfl⟩
      | 2, hi => cases hi; exact ⟨40, by decide, rfl⟩
      | 3, hi => cases hi; exact ⟨128, by decide, rfl⟩
      | n + 4, hi => cases hi
    obtain ⟨n, hn, rfl⟩ := hv
    have sA : Stay p H H1 := (UL.Same.stay (same_new hl0) p).trans st1
    refine ⟨(n : Nat), rfl, by omega, by omega, fun D hD => ?_⟩
    refine lc_stay (walk_range (lo := 0) (n := n)) hD hp1 (fun i v H' => ∃ b, v = bV b) (fun _ _ _ _ h _ _ _ => h) (by omega) (fun _ _ _ => trivial) (fun i x H2 H' hi s2 p2 hy Z hZ => ?_) (fun H2 ys hl2 hys s2 p2 hD2 => ?_)
    · obtain ⟨rfl, rfl⟩ := hy
      walk_at "go"
      rename_i l9 hl9 k v9 H9 hk p9 s9
      refine hZ _ _ ?_ ((UL.Same.stay (same_new hl9) p).trans s9) p9
      match k, hk with
      | 0, hk => cases hk; exact ⟨some false, rfl⟩
      | 1, hk => cases hk; exact ⟨some true, rfl⟩
      | 2, hk => cases hk; exact ⟨none, rfl⟩
      | n + 3, hk => cases hk
    · have hx : ∃ xs : List Bt, ys = xs.map bV := by
        clear hD2 hl2
        induction ys with
        | nil => exact ⟨[], rfl⟩
        | cons y ys ih =>
          obtain ⟨xs, e⟩ := ih fun i v e => hys (i + 1) v (by simpa using e)
          obtain ⟨b, eb⟩ := hys 0 y rfl
          exact ⟨b :: xs, by rw [eb, e]; rfl⟩
      obtain ⟨xs, rfl⟩ := hx
      rw [List.length_map] at hl2
      exact q D xs H2 (Stay.none sA hp1 hD) hD2 (by omega) p2 (sA.trans s2)
end
end K14
set_option Elab.async false
set_option linter.all false
set_option maxRecDepth 100000
set_option maxHeartbeats 4000000


namespace K14
open PySem L2 UL ClX
local macro_rules | `(tactic| walk_at "txt") => `(tactic| first
  | ((with_reducible show PySem.W.kitOne _ (.ref _) (.ref _) = _); first | exact Txt.ks_Work_Fill (by assumption) | exact Txt.ks_Fill_Work (by assumption))
  | ((with_reducible show PySem.W.notFirst _ _ (.ref _) = _); first | exact Txt.nf_Work_Fill (by assumption) | exact Txt.nf_Fill_Work (by assumption))
  | ((with_reducible show L2.Cls _ _); first | exact UL.CIsi.cl (Txt.i_Fill (by assumption)) | exact UL.CIsi.cl (Txt.i_Work (by assumption)))
  | ((with_reducible show UL.CIsi _ _); first | exact Txt.i_Fill (by assumption) | exact Txt.i_Work (by assumption))
  | ((with_reducible show L2.NoAttr _ _ _); first | exact Txt.n_Fill_word (by assumption) | exact Txt.n_Fill_extent (by assumption) | exact Txt.n_Work_fills (by assumption))
  | ((with_reducible show L2.TyX _ _ _ _); first | exact UL.CIsi.ty (Txt.i_Fill (by assumption)) (by walk_at "look") | exact UL.CIsi.ty (Txt.i_Work (by assumption)) (by walk_at "look"))
  | ((with_reducible show PySem.W.kitOne _ (.type _) (.ref _) = _); first | exact ((Txt.k_Fill (by assumption)) _ (by simp)).1 | exact ((Txt.k_Work (by assumption)) _ (by simp)).1)
  | ((with_reducible show _ = PySem.Value.ref _ ∨ _); first | exact .inl rfl | exact .inr ⟨_, rfl, Txt.no_Fill (by assumption)⟩)
  | fail)
open K14M (RT okR plS plainR lastW rowB)
/-- rows, no more than m, all of them right -/
def Rk (m : Nat) (H : Hp) (rs : List V) : Prop := ∃ ts : List RT, RowsL H rs ts ∧ ts.length ≤ m ∧ ∀ t ∈ ts, okR t
theorem Rk.ev {m : Nat} {H H' : Hp} {rs : List V} (h : Rk m H rs) (s : Ev H H') : Rk m H' rs := by
  obtain ⟨ts, h1, h2, h3⟩ := h
  exact ⟨ts, h1.ev s, h2, h3⟩
theorem Rk.cut {m : Nat} {H : Hp} {rs : List V} (h : Rk m H rs) (a b : Option Int) : Rk m H (cutV rs a b) := by
  obtain ⟨ts, h1, h2, h3⟩ := h
  unfold cutV
  refine ⟨_, (h1.drop _).take _, ?_, fun t ht => h3 t (List.mem_of_mem_drop (List.mem_of_mem_take ht))⟩
  rw [List.length_take, List.length_drop]
  omega
theorem Rk.app {m n : Nat} {H : Hp} {rs us : List V} (h : Rk m H rs) (g : Rk n H us) : Rk (m + n) H (rs ++ us) := by
  obtain ⟨ts, h1, h2, h3⟩ := h
  obtain ⟨vs, g1, g2, g3⟩ := g
  exact ⟨_, h1.app g1, by rw [List.length_append]; omega, fun t ht => (List.mem_append.mp ht).elim (h3 t) (g3 t)⟩
theorem Rk.one {H : Hp} {a : Addr} {b : Bool} {e : Int} (h : H a = some (.tup [.str (wdS b), .int e])) (h1 : 3 ≤ e ∧ e ≤ 128) : Rk 1 H [.ref a] :=
  ⟨[(b, e)], RowsL.one h, Nat.le_refl _, fun t ht => by rw [List.mem_singleton.mp ht]; exact h1⟩
theorem zs_pick {k : Nat} {v : V} (h : [V.str (Str.ofString "zeros"), V.str (Str.ofString "sign")][k]? = some v) : ∃ b, v = .str (wdS b) := by
  match k, h with
  | 0, h => cases h; exact ⟨false, rfl⟩
  | 1, h => cases h; exact ⟨true, rfl⟩
  | n + 2, h => cases h
theorem rk_end {H H2 H3 : Hp} {p z : Addr} {xs : List V} {m : Nat} {Q : VK} (st : Stay p H H2) (hp2 : Pot H2 p) (s : L2.Same H2 H3) (hz : H3 z = none) (k : Rk m H3 xs) (hm : m ≤ 62)
    (q : ∀ (L : Addr) (us : List RT) (H' : Hp), H L = none → RwAt H' L us → us.length ≤ 62 → (∀ t ∈ us, okR t) → Pot H' p → Stay p H H' → Q (.ref L) H') : Q (.ref z) (upd H3 z (.lst xs)) := by
  obtain ⟨us, r1, r2, r3⟩ := k.ev (Ev.new (o := .lst xs) hz)
  have s2 := s.trans (same_new (o := .lst xs) hz)
  exact q z us _ (Stay.none st hp2 (UL.Same.none s hz)) (RwAt.of upd_same r1) (by omega) r3 (hp2.same s2) (st.trans (UL.Same.stay s2 p))
section
variable {P : Program} {w : World} {K : PySem.W.Frag} {mg : Str → Option Value} {base : Heap} {ad : Ad}
/-- _law_like(pot, rows) -/
def spLLike : Sp := fun vs H Q _ => ∃ (p l : Addr) (ts : List RT), vs = [.ref p, .ref l] ∧ Pot H p ∧ l ≠ p ∧ RwAt H l ts ∧ (∀ t ∈ ts, okR t) ∧ ts.length ≤ 20 ∧
  ∀ (L : Addr) (us : List RT) (H' : Hp), H L = none → RwAt H' L us → us.length ≤ 62 → (∀ t ∈ us, okR t) → Pot H' p → Stay p H H' → Q (.ref L) H'
abbrev st_l_like : Stmt := top 36
theorem sc_l_like : FnScope ["_law_pot_here", "_law_rows_now", "_law_at", "_law_less"] ["_law_pot_here", "_law_rows_now"] (defScope st_l_like) := ⟨rfl, rfl, rfl, by decide +kernel, rfl, by decide +kernel, by decide +kernel⟩
theorem ok_l_like {f : Addr} {fd : FuncData} (F : Fun K "_law_like" "_law_like" st_l_like f fd) (T : Txt K mg ad) (c_l_draw : Cal P w K mg base 1 "_law_draw" spDraw) (c_l_pick : Cal P w K mg base 2 "_law_pick" (spPick1 K)) :
    FnOk P w K mg base CX0 3 f fd ["_law_pot_here", "_law_rows_now"] (spLLike) := by
  refine F.ok sc_l_like (fun vs H Q E h => ?_) (fun cdv A outer s H vs Q E hr h => ?_)
  · obtain (⟨p, l, ts, rfl, hp, nlp, hR, ho, hl, q⟩) := h
    rfl
  · obtain (⟨p, l, ts, rfl, hp, nlp, hR, ho, hl, q⟩) := h
    refine ⟨_, pss_cons (ps_set (i := 2) sc_l_like.nd rfl (.inl rfl) (pe_c c_l_draw hr (by decide) (by rfl) (pa_cons (pv 0) (pa_cons (pe_op op_add (pe_callB call_len_seq (by rfl) T.bi.len (by decide +kernel) (pa_cons (pv 1) pa_nil)) pe_int) pa_nil))))
      (pss_cons (ps_if (pt_cmpR op_eq (pv 2) (pe_callB call_len_seq (by rfl) T.bi.len (by decide +kernel) (pa_cons (pv 1) pa_nil)) (nomark _)) (pss_one (ps_ret (pe_op op_cat (pv 1) (pe_slice sl_list (pv 1) (po_some (pe_un un_neg pe_int)) po_none)))) pss_nil)
      (pss_cons (ps_set (i := 3) sc_l_like.nd rfl (.inl rfl) (pe_op op_add pe_int (pe_c c_l_draw hr (by decide) (by rfl) (pa_cons (pv 0) (pa_cons (pe_op op_sub (pe_ix ix_tup (pe_ix ix_list (pv 1) (pv 2) (fun _ _ => rfl)) pe_int (fun _ _ => rfl)) pe_int) pa_nil)))))
      (pss_one (ps_ret (pe_op op_cat (pe_op op_cat (pe_slice sl_list (pv 1) po_none (po_some (pv 2))) (pe_lst (pa_cons (pe_tup (pa_cons (pe_c c_l_pick hr (by decide) (by rfl) (pa_cons (pv 0) (pa_cons (pe_lst (pa_cons pe_str (pa_cons pe_str pa_nil))) pa_nil))) (pa_cons (pv 3) pa_nil))) pa_nil))) (pe_slice sl_list (pv 1) (po_some (pv 2)) po_none)))))), ?_⟩
    obtain ⟨rs, h1, h2⟩ := hR.out
    have el := h2.1
    have kR : Rk 20 H rs := ⟨ts, h2, hl, ho⟩
    walk_at "go"
    rename_i d H1 d0 d1 hp1 st1
    obtain ⟨k, rfl⟩ : ∃ k : Nat, d = (k : Nat) := ⟨d.toNat, by omega⟩
    have h3 := st1 _ _ nlp h1
    have h4 := h2.ev (Ev.stay st1 hp hp1)
    by_cases c : k = rs.length
    · rw [decide_eq_true (show V.int ((k : Nat) : Int) = V.int (rs.length : Int) by rw [c])]
      dsimp only
      rw [if_pos rfl]
      have c1 := cutV_length rs (some (-1)) none
      walk_at "go"
      rename_i z1 hz1 z2 hz2
      obtain ⟨us, r1, r2, r3⟩ := ((kR.ev (Ev.stay st1 hp hp1)).app ((kR.ev (Ev.stay st1 hp hp1)).cut (some (-1)) none)).ev ((Ev.new (o := .lst (cutV rs (some (-1)) none)) hz1).trans (Ev.new (o := .lst (rs ++ cutV rs (some (-1)) none)) hz2))
      exact q z2 us _ (Stay.none st1 hp1 (up_none hz2)) (RwAt.of upd_same r1) (by omega) r3 ((hp1.same (same_new hz1)).same (same_new hz2)) ((st1.trans (UL.Same.stay (same_new hz1) p)).trans (UL.Same.stay (same_new hz2) p))
    · rw [decide_eq_false (show ¬ V.int ((k : Nat) : Int) = V.int (rs.length : Int) by intro z; injection z with z; omega)]
      dsimp only
      rw [if_neg Bool.false_ne_true]
      have lk : k < ts.length := by omega
      have lr : k < rs.length := by omega
      have et : ts[k]? = some ts[k] := List.getElem?_eq_getElem lk
      have er : rs[k]? = some rs[k] := List.getElem?_eq_getElem lr
      obtain ⟨a, ea, ha⟩ := h4.2 k _ _ er et
      rw [ea] at er
      have at0 : atI rs ((k : Nat) : Int) = some (.ref a) := atI_nat er
      obtain ⟨t0, t1⟩ := ho _ (List.getElem_mem lk)
      have c1 := cutV_length rs none (some ((k : Nat) : Int))
      have c2 := cutV_length rs (some ((k : Nat) : Int)) none
      walk_at "go"
      rename_i d2 H2 e0 e1 hp2 st2 z1 hz1 z2 hz2 j v H3 hj hp3 st3 T hT z3 hz3 z4 hz4 z5 hz5 z6 hz6
      obtain ⟨b, rfl⟩ := zs_pick hj
      have sA : Stay p H H3 := (st1.trans st2).trans (by walk_at "stay")
      have k3 := kR.ev (Ev.stay sA hp hp3)
      have o1 : Rk 1 (upd H3 T (.tup [V.str (wdS b), V.int (3 + d2)])) [V.ref T] := Rk.one upd_same ⟨by omega, by omega⟩
      exact rk_end sA hp3 (by walk_at "same") hz6 ((((k3.cut none (some ((k : Nat) : Int))).ev (Ev.same (by walk_at "same"))).app (o1.ev (Ev.same (by walk_at "same")))).app ((k3.cut (some ((k : Nat) : Int)) none).ev (Ev.same (by walk_at "same")))) (by decide) q
/-- _law_bent(pot, rows) -/
abbrev st_l_bent : Stmt := top 37
theorem sc_l_bent : FnScope ["_law_pot_here", "_law_rows_now", "_law_at", "_law_way", "_law_word", "_law_reach", "_law_rest"] ["_law_pot_here", "_law_rows_now"] (defScope st_l_bent) := ⟨rfl, rfl, rfl, by decide +kernel, rfl, by decide +kernel, by decide +kernel⟩
theorem ok_l_bent {f : Addr} {fd : FuncData} (F : Fun K "_law_bent" "_law_bent" st_l_bent f fd) (T : Txt K mg ad) (c_l_draw : Cal P w K mg base 1 "_law_draw" spDraw) :
    FnOk P w K mg base CX0 2 f fd ["_law_pot_here", "_law_rows_now"] (spLLike) := by
  refine F.ok sc_l_bent (fun vs H Q E h => ?_) (fun cdv A outer s H vs Q E hr h => ?_)
  · obtain (⟨p, l, ts, rfl, hp, nlp, hR, ho, hl, q⟩) := h
    rfl
  · obtain (⟨p, l, ts, rfl, hp, nlp, hR, ho, hl, q⟩) := h
    refine ⟨_, pss_cons (ps_if (pt_cmpR (op_eq0 hr.units) (pv 1) (pe_lst pa_nil) (nomark _)) (pss_one (ps_ret (pe_lst (pa_cons (pe_tup (pa_cons pe_str (pa_cons (pe_op op_add pe_int (pe_c c_l_draw hr (by decide) (by rfl) (pa_cons (pv 0) (pa_cons pe_int pa_nil)))) pa_nil))) pa_nil)))) pss_nil)
      (pss_cons (ps_par (i := 2) (j := 3) rfl sc_l_bent.nd rfl rfl (by decide) rfl rfl (pa_cons (pe_c c_l_draw hr (by decide) (by rfl) (pa_cons (pv 0) (pa_cons (pe_callB call_len_seq (by rfl) T.bi.len (by decide +kernel) (pa_cons (pv 1) pa_nil)) pa_nil))) (pa_cons (pe_c c_l_draw hr (by decide) (by rfl) (pa_cons (pv 0) (pa_cons pe_int pa_nil))) pa_nil)) (by rfl))
      (pss_cons (ps_asg (pe_ix ix_list (pv 1) (pv 2) (fun _ _ => rfl)) (pg_tup rfl (pgs_cons (pg_name (i := 4) sc_l_bent.nd rfl (Or.inl rfl)) (pgs_cons (pg_name (i := 5) sc_l_bent.nd rfl (Or.inl rfl)) pgs_nil))))
      (pss_cons (ps_if (pt_cmpR op_eq (pv 3) pe_int (nomark _)) (pss_one (ps_ret (pe_op op_cat (pe_slice sl_list (pv 1) po_none (po_some (pv 2))) (pe_slice sl_list (pv 1) (po_some (pe_op op_add (pv 2) pe_int)) po_none)))) pss_nil)
      (pss_cons (ps_if (pt_cmpR op_eq (pv 3) pe_int (nomark _)) (pss_one (ps_ret (pe_op op_cat (pe_op op_cat (pe_slice sl_list (pv 1) po_none (po_some (pv 2))) (pe_lst (pa_cons (pe_tup (pa_cons (pe_ifExp (pt_cmpR op_eq (pv 4) pe_str (nomark _)) pe_str pe_str) (pa_cons (pv 5) pa_nil))) pa_nil))) (pe_slice sl_list (pv 1) (po_some (pe_op op_add (pv 2) pe_int)) po_none)))) pss_nil)
      (pss_cons (ps_if (pt_cmpR op_eq (pv 3) pe_int (nomark _)) (pss_one (ps_ret (pe_op op_cat (pe_op op_cat (pe_slice sl_list (pv 1) po_none (po_some (pv 2))) (pe_lst (pa_cons (pe_tup (pa_cons (pv 4) (pa_cons (pe_callB (call_max2 rfl) (by rfl) T.bi.max (by decide +kernel) (pa_cons pe_int (pa_cons (pe_op op_sub (pv 5) pe_int) pa_nil))) pa_nil))) pa_nil))) (pe_slice sl_list (pv 1) (po_some (pe_op op_add (pv 2) pe_int)) po_none)))) pss_nil)
      (pss_cons (ps_set (i := 6) sc_l_bent.nd rfl (.inl rfl) (pe_op op_cat (pe_lst (pa_cons (pe_ix ix_list (pv 1) (pv 2) (fun _ _ => rfl)) pa_nil)) (pe_slice sl_list (pv 1) (po_some (pe_op op_add (pv 2) pe_int)) po_none)))
      (pss_one (ps_ret (pe_op op_cat (pe_op op_cat (pe_slice sl_list (pv 1) po_none (po_some (pv 2))) (pe_slice sl_list (pv 1) (po_some (pe_op op_add (pv 2) pe_int)) (po_some (pe_op op_add (pv 2) pe_int)))) (pv 6)))))))))), ?_⟩
    obtain ⟨rs, h1, h2⟩ := hR.out
    have el := h2.1
    have kR : Rk 20 H rs := ⟨ts, h2, hl, ho⟩
    walk_at "go"
    rename_i z hz
    by_cases c : rs.length = 0
    · rw [decide_eq_true c]
      dsimp only
      rw [if_pos rfl]
      walk_at "go"
      rename_i d2 H2 e0 e1 hp2 st2 T hT z1 hz1
      have o1 : Rk 1 (upd H2 T (.tup [V.str (wdS false), V.int (3 + d2)])) [V.ref T] := Rk.one upd_same ⟨by omega, by omega⟩
      exact rk_end ((UL.Same.stay (same_new hz) p).trans st2) hp2 (same_new hT) hz1 o1 (by decide) q
    · rw [decide_eq_false c]
      dsimp only
      rw [if_neg Bool.false_ne_true]
      have hz1 := same_new (o := .lst []) hz _ _ h1
      have hp0 := hp.same (same_new (o := .lst []) hz)
      walk_at "go"
      rename_i d H1 d0 d1 hp1 st1 d2 H2 e0 e1 hp2 st2
      obtain ⟨k, rfl⟩ : ∃ k : Nat, d = (k : Nat) := ⟨d.toNat, by omega⟩
      have s02 : Stay p H H2 := ((UL.Same.stay (same_new hz) p).trans st1).trans st2
      have h3 := s02 _ _ nlp h1
      have v02 := Ev.stay s02 hp hp2
      have h4 := h2.ev v02
      have k2 := kR.ev v02
      have lk : k < ts.length := by omega
      have lr : k < rs.length := by omega
      have et : ts[k]? = some ts[k] := List.getElem?_eq_getElem lk
      have er : rs[k]? = some rs[k] := List.getElem?_eq_getElem lr
      obtain ⟨a, ea, ha⟩ := h4.2 k _ _ er et
      rw [ea] at er
      have at0 : atI rs ((k : Nat) : Int) = some (.ref a) := atI_nat er
      obtain ⟨t0, t1⟩ := ho _ (List.getElem_mem lk)
      have c1 := cutV_length rs none (some ((k : Nat) : Int))
      have c2 := cutV_length rs (some ((k : Nat) + 1 : Int)) none
      have c3 := cutV_length rs (some ((k : Nat) + 1 : Int)) (some ((k : Nat) + 2 : Int))
      have c4 := cutV_length rs (some ((k : Nat) + 2 : Int)) none
      generalize ts[k] = tk at ha t0 t1
      have hd : d2 = 0 ∨ d2 = 1 ∨ d2 = 2 ∨ d2 = 3 := by omega
      clear e0 e1
      rcases hd with rfl | rfl | rfl | rfl
      · walk_at "go"
        rename_i z1 hz1 z2 hz2 z3 hz3
        exact rk_end s02 hp2 (by walk_at "same") hz3 (((k2.cut none (some ((k : Nat) : Int))).app (k2.cut (some ((k : Nat) + 1 : Int)) none)).ev (Ev.same (by walk_at "same"))) (by decide) q
      · obtain ⟨b, e⟩ := tk
        have hb : decide (V.str (wdS b) = V.str (Str.ofString "zeros")) = !b := by cases b <;> decide
        walk_at "go"
        dsimp only
        rw [hb]
        cases b with
        | false =>
          rw [if_pos (by rfl)]
          walk_at "go"
          rename_i z1 hz1 T hT z2 hz2 z3 hz3 z4 hz4 z5 hz5
          have o1 : Rk 1 (upd (upd H2 z1 (.lst (cutV rs none (some ((k : Nat) : Int))))) T (.tup [V.str (Str.ofString "sign"), V.int e])) [V.ref T] := Rk.one (b := true) upd_same ⟨t0, t1⟩
          exact rk_end s02 hp2 (by walk_at "same") hz5 ((((k2.cut none (some ((k : Nat) : Int))).ev (Ev.same (by walk_at "same"))).app (o1.ev (Ev.same (by walk_at "same")))).app ((k2.cut (some ((k : Nat) + 1 : Int)) none).ev (Ev.same (by walk_at "same")))) (by decide) q
        | true =>
          rw [if_neg (by decide)]
          walk_at "go"
          rename_i z1 hz1 T hT z2 hz2 z3 hz3 z4 hz4 z5 hz5
          have o1 : Rk 1 (upd (upd H2 z1 (.lst (cutV rs none (some ((k : Nat) : Int))))) T (.tup [V.str (Str.ofString "zeros"), V.int e])) [V.ref T] := Rk.one (b := false) upd_same ⟨t0, t1⟩
          exact rk_end s02 hp2 (by walk_at "same") hz5 ((((k2.cut none (some ((k : Nat) : Int))).ev (Ev.same (by walk_at "same"))).app (o1.ev (Ev.same (by walk_at "same")))).app ((k2.cut (some ((k : Nat) + 1 : Int)) none).ev (Ev.same (by walk_at "same")))) (by decide) q
      · walk_at "go"
        rename_i z1 hz1 T hT z2 hz2 z3 hz3 z4 hz4 z5 hz5
        have ge : 3 ≤ (if tk.2 - 1 > 3 then tk.2 - 1 else 3) ∧ (if tk.2 - 1 > 3 then tk.2 - 1 else 3) ≤ 128 := by split <;> omega
        have o1 : Rk 1 (upd (upd H2 z1 (.lst (cutV rs none (some ((k : Nat) : Int))))) T (.tup [V.str (wdS tk.1), V.int (if tk.2 - 1 > 3 then tk.2 - 1 else 3)])) [V.ref T] := Rk.one upd_same ge
        exact rk_end s02 hp2 (by walk_at "same") hz5 ((((k2.cut none (some ((k : Nat) : Int))).ev (Ev.same (by walk_at "same"))).app (o1.ev (Ev.same (by walk_at "same")))).app ((k2.cut (some ((k : Nat) + 1 : Int)) none).ev (Ev.same (by walk_at "same")))) (by decide) q
      · walk_at "go"
        rename_i z1 hz1 z2 hz2 z3 hz3 z4 hz4 z5 hz5 z6 hz6 z7 hz7
        have o1 : Rk 1 H2 [V.ref a] := Rk.one ha ⟨t0, t1⟩
        exact rk_end s02 hp2 (by walk_at "same") hz7 ((((k2.cut none (some ((k : Nat) : Int))).app (k2.cut (some ((k : Nat) + 1 : Int)) (some ((k : Nat) + 2 : Int)))).app (o1.app (k2.cut (some ((k : Nat) + 2 : Int)) none))).ev (Ev.same (by walk_at "same"))) (by decide) q
end
end K14
set_option Elab.async false
set_option linter.all false
set_option maxRecDepth 100000
set_option maxHeartbeats 4000000


namespace K14
open PySem L2 UL ClX
local macro_rules | `(tactic| walk_at "txt") => `(tactic| first
  | ((with_reducible show PySem.W.kitOne _ (.ref _) (.ref _) = _); first | exact Txt.ks_Work_Fill (by assumption) | exact Txt.ks_Fill_Work (by assumption))
  | ((with_reducible show PySem.W.notFirst _ _ (.ref _) = _); first | exact Txt.nf_Work_Fill (by assumption) | exact Txt.nf_Fill_Work (by assumption))
  | ((with_reducible show L2.Cls _ _); first | exact UL.CIsi.cl (Txt.i_Fill (by assumption)) | exact UL.CIsi.cl (Txt.i_Work (by assumption)))
  | ((with_reducible show UL.CIsi _ _); first | exact Txt.i_Fill (by assumption) | exact Txt.i_Work (by assumption))
  | ((with_reducible show L2.NoAttr _ _ _); first | exact Txt.n_Fill_word (by assumption) | exact Txt.n_Fill_extent (by assumption) | exact Txt.n_Work_fills (by assumption))
  | ((with_reducible show L2.TyX _ _ _ _); first | exact UL.CIsi.ty (Txt.i_Fill (by assumption)) (by walk_at "look") | exact UL.CIsi.ty (Txt.i_Work (by assumption)) (by walk_at "look"))
  | ((with_reducible show PySem.W.kitOne _ (.type _) (.ref _) = _); first | exact ((Txt.k_Fill (by assumption)) _ (by simp)).1 | exact ((Txt.k_Work (by assumption)) _ (by simp)).1)
  | ((with_reducible show _ = PySem.Value.ref _ ∨ _); first | exact .inl rfl | exact .inr ⟨_, rfl, Txt.no_Fill (by assumption)⟩)
  | fail)
open K14M (RT okR plS plainR lastW rowB loneR)
local macro_rules | `(tactic| walk_at "side") => `(tactic| first
  | ((with_reducible show StX.InsC _ _ _ _); exact Or.inr ⟨_, _, by walk_at "look"⟩)
  | fail)
theorem row_data {K : PySem.W.Frag} {H : Hp} {l : Addr} {xs : List Bt} (h : H l = some (.lst (xs.map bV))) (hx : xs.length ≤ 128) : Dp K H (.ref l) (.list (xs.map bD)) ∧ (PyData.list (xs.map bD)).showable = true ∧ (PyData.list (xs.map bD)).hasDict = false ∧ (PyData.list (xs.map bD)).depth ≤ 40 ∧ (PyData.list (xs.map bD)).shown.length ≤ sizeLine := by
  obtain ⟨a, b, c, d⟩ := bits_data xs (by omega)
  exact ⟨.lst (SqL.of h) (bDs_dp xs), a, b, c, line_ge (by omega)⟩
theorem lone_map : (List.replicate (Int.toNat 128) [V.non]).flatten.set (Int.toNat 1) (V.int 1) = loneR.map bV := by decide +kernel
theorem rep_row {K : PySem.W.Frag} {H : Hp} {l : Addr} {xs : List Bt} {R : VK} (h : H l = some (.lst (xs.map bV))) (hx : xs.length ≤ 128) (q : R (.str (PyData.list (xs.map bD)).shown) H) : rReprD K [.ref l] H R := by
  obtain ⟨a, b, c, d, e⟩ := row_data (K := K) h hx
  exact ⟨_, _, rfl, a, b, c, d, e, q⟩
def gKC : List V → List V → List V := fun vs zs => vs ++ zs
theorem two_data {K : PySem.W.Frag} {H : Hp} {l : Addr} {b c : Bool} (h : H l = some (.lst [.bl b, .bl c])) : Dp K H (.ref l) (.list [.bool b, .bool c]) ∧ (PyData.list [.bool b, .bool c]).showable = true ∧ (PyData.list [.bool b, .bool c]).hasDict = false ∧ (PyData.list [.bool b, .bool c]).depth ≤ 40 ∧ (PyData.list [.bool b, .bool c]).shown.length ≤ sizeLine := by
  refine ⟨.lst (SqL.of h) (.cons (.bl _) (.cons (.bl _) .nil)), ?_, ?_, ?_, ?_⟩
  · cases b <;> cases c <;> decide +kernel
  · cases b <;> cases c <;> decide +kernel
  · cases b <;> cases c <;> decide +kernel
  · refine line_ge ?_
    cases b <;> cases c <;> decide +kernel
section
variable {P : Program} {w : World} {K : PySem.W.Frag} {mg : Str → Option Value} {base : Heap} {ad : Ad}
/-- _law_row_parts(work, work) -/
def spRowParts (ad : Ad) : Sp := fun vs H Q _ => ∃ (v u : V) (ts us : List RT), vs = [v, u] ∧ WkAt ad H v ts ∧ WkAt ad H u us ∧ ∀ (H' : Hp), L2.Same H H' → Q (.bl (!decide (plainR ts = plainR us))) H'
abbrev st_l_row_parts : Stmt := top 40
theorem sc_l_row_parts : FnScope ["_law_made_here", "_law_mate", "_law_bits_now"] ["_law_made_here", "_law_mate"] (defScope st_l_row_parts) := ⟨rfl, rfl, rfl, by decide +kernel, rfl, by decide +kernel, by decide +kernel⟩
theorem ok_l_row_parts {f : Addr} {fd : FuncData} (F : Fun K "_law_row_parts" "_law_row_parts" st_l_row_parts f fd) (T : Txt K mg ad) (c_Work_call : CalO P w K mg base 4 ad.c_Work (spWCall ad)) :
    FnG P w K mg base 5 f fd ["_law_made_here", "_law_mate"] (spRowParts ad) := by
  refine FnG.mk' F sc_l_row_parts (fun vs H Q E h => ?_) (fun cdv A outer s H vs Q E hgd hr h => ?_)
  · obtain (⟨v, u, ts, us, rfl, hv, hu, q⟩) := h
    rfl
  · obtain (⟨v, u, ts, us, rfl, hv, hu, q⟩) := h
    refine ⟨_, pss_cons (ps_set (i := 2) sc_l_row_parts.nd rfl (.inl rfl) (pe_op op_rep (pe_lst (pa_cons pe_non pa_nil)) pe_int))
      (pss_cons (ps_asg pe_int (pg_sub (pv 2) pe_int set_list))
      (pss_one (ps_ret (pe_cmpR op_ne (pe_callB (r := rReprD K) (call_reprD hgd hr.units) (by rfl) T.bi.repr (by decide +kernel) (pa_cons (pe_o (pv 0) c_Work_call hr (by decide) (pa_cons (pv 2) (pa_cons pe_int pa_nil))) pa_nil)) (pe_callB (r := rReprD K) (call_reprD hgd hr.units) (by rfl) T.bi.repr (by decide +kernel) (pa_cons (pe_o (pv 1) c_Work_call hr (by decide) (pa_cons (pv 2) (pa_cons pe_int pa_nil))) pa_nil)) (nomark _))))), ?_⟩
    obtain ⟨a, dx, tp, fs, rfl, h1, h2, h3, h4, h5⟩ := id hv
    obtain ⟨b, dy, tq, gs, rfl, g1, g2, g3, g4, g5⟩ := id hu
    walk_at "go"
    rename_i z1 hz1 z2 hz2
    rw [lone_map]
    have sA : L2.Same H (upd (upd (upd H z1 (.lst [.non])) z2 (.lst (List.replicate (Int.toNat 128) [V.non]).flatten)) z2 (.lst (loneR.map bV))) := fun b o e => by
      have e1 := same_new (o := .lst [.non]) hz1 _ _ e
      rw [upd_ne (ne_of_none e1 hz2), upd_ne (ne_of_none e1 hz2)]
      exact e1
    have hr1 : upd (upd (upd H z1 (.lst [.non])) z2 (.lst (List.replicate (Int.toNat 128) [V.non]).flatten)) z2 (.lst (loneR.map bV)) z2 = some (.lst (loneR.map bV)) := upd_same
    generalize upd (upd (upd H z1 (.lst [.non])) z2 (.lst (List.replicate (Int.toNat 128) [V.non]).flatten)) z2 (.lst (loneR.map bV)) = HA at sA hr1 ⊢
    have ll : loneR.length ≤ 128 := by rw [K14M.lone_len]; exact Nat.le_refl _
    have i1 := sA _ _ h1
    refine ⟨.ref a, z2, ts, loneR, 2, rfl, hv.ev (Ev.same sA), hr1, ll, by decide, by decide, fun l2 H2 hl2 hL2 s2 => ?_⟩
    obtain ⟨y1, y2, y3, y4, y5⟩ := row_data (K := K) hL2 (by rw [K14M.rowB_len]; exact ll)
    refine ⟨_, _, rfl, y1, y2, y3, y4, y5, ?_⟩
    have sB := sA.trans s2
    have i2 := sB _ _ g1
    have hr2 := s2 _ _ hr1
    walk_at "go"
    refine ⟨.ref b, z2, us, loneR, 2, rfl, hu.ev (Ev.same sB), hr2, ll, by decide, by decide, fun l3 H3 hl3 hL3 s3 => ?_⟩
    obtain ⟨y1, y2, y3, y4, y5⟩ := row_data (K := K) hL3 (by rw [K14M.rowB_len]; exact ll)
    refine ⟨_, _, rfl, y1, y2, y3, y4, y5, ?_⟩
    walk_at "go"
    dsimp only
    rw [shown_inj, decide_eq_decide.mpr (K14M.row_iff h5 g5)]
    exact q _ (sB.trans s3)
/-- _law_plain_right(pot, work, rows) -/
def spPlainRight (ad : Ad) : Sp := fun vs H Q _ => ∃ (p l : Addr) (v : V) (ts : List RT), vs = [.ref p, v, .ref l] ∧ Pot H p ∧ l ≠ p ∧ WkAt ad H v ts ∧ RwAt H l ts ∧ ∀ (H' : Hp), Pot H' p → Stay p H H' → Q (.bl true) H'
abbrev st_l_plain_right : Stmt := top 38
theorem sc_l_plain_right : FnScope ["_law_pot_here", "_law_made_here", "_law_rows_now", "_law_less", "_law_due", "_law_turn", "_law_bits_now", "_law_wide"] ["_law_pot_here", "_law_made_here", "_law_rows_now"] (defScope st_l_plain_right) := ⟨rfl, rfl, rfl, by decide +kernel, rfl, by decide +kernel, by decide +kernel⟩
theorem ok_l_plain_right {f : Addr} {fd : FuncData} (F : Fun K "_law_plain_right" "_law_plain_right" st_l_plain_right f fd) (T : Txt K mg ad) (c_Work_plain : CalM P w K mg base 6 ad.c_Work "plain" (spWPlain ad)) (c_l_plain : Cal P w K mg base 2 "_law_plain" (spLPlain)) (c_l_parts : Cal P w K mg base 3 "_law_parts" (spParts ad)) (c_l_row : Cal P w K mg base 3 "_law_row" (spLRow)) (c_l_draw : Cal P w K mg base 1 "_law_draw" spDraw) (c_Work_call : CalO P w K mg base 4 ad.c_Work (spWCall ad)) (c_Work_is_like : CalM P w K mg base 7 ad.c_Work "is_like" (spWLike ad)) (c_Work_eq : CalS P w K mg base 3 ad.c_Work "__eq__" (spWEq ad)) :
    FnG P w K mg base 8 f fd ["_law_pot_here", "_law_made_here", "_law_rows_now"] (spPlainRight ad) := by
  refine FnG.mk' F sc_l_plain_right (fun vs H Q E h => ?_) (fun cdv A outer s H vs Q E hgd hr h => ?_)
  · obtain (⟨p, l, v, ts, rfl, hp, nlp, hW, hR, q⟩) := h
    rfl
  · obtain (⟨p, l, v, ts, rfl, hp, nlp, hW, hR, q⟩) := h
    refine ⟨_, pss_cons (ps_set (i := 3) sc_l_plain_right.nd rfl (.inl rfl) (pe_m0 (pv 1) c_Work_plain hr (by decide)))
      (pss_cons (ps_set (i := 4) sc_l_plain_right.nd rfl (.inl rfl) (pe_c c_l_plain hr (by decide) (by rfl) (pa_cons (pv 2) pa_nil)))
      (pss_cons (ps_if (PW.pt (pw_or (pt_cmpR (op_neD hr.units) (pe_c c_l_parts hr (by decide) (by rfl) (pa_cons (pv 3) pa_nil)) (pv 4) (nomark _)) (pw_or1 (pt_cmpR (op_neD hr.units) (pe_c c_l_parts hr (by decide) (by rfl) (pa_cons (pe_m0 (pv 3) c_Work_plain hr (by decide)) pa_nil)) (pv 4) (nomark _))))) (pss_one (ps_ret pe_bl)) pss_nil)
      (pss_cons (ps_if (pt_cmpR (op_neD hr.units) (pe_c c_l_parts hr (by decide) (by rfl) (pa_cons (pv 1) pa_nil)) (pv 2) (nomark _)) (pss_one (ps_ret pe_bl)) pss_nil)
      (pss_cons (ps_for PassesOwn.never rfl (pi_range1 (by rfl) T.bi.range (pa_cons pe_int pa_nil)) (pg_name (i := 5) sc_l_plain_right.nd rfl (Or.inl rfl))
        (pss_cons (ps_par (i := 6) (j := 7) rfl sc_l_plain_right.nd rfl rfl (by decide) rfl rfl (pa_cons (pe_c c_l_row hr (by decide) (by rfl) (pa_cons (pv 0) pa_nil)) (pa_cons (pe_op op_add pe_int (pe_c c_l_draw hr (by decide) (by rfl) (pa_cons (pv 0) (pa_cons pe_int pa_nil)))) pa_nil)) (by rfl))
          (pss_one (ps_if (pt_cmpR op_ne (pe_callB (r := rReprD K) (call_reprD hgd hr.units) (by rfl) T.bi.repr (by decide +kernel) (pa_cons (pe_o (pv 3) c_Work_call hr (by decide) (pa_cons (pv 6) (pa_cons (pv 7) pa_nil))) pa_nil)) (pe_callB (r := rReprD K) (call_reprD hgd hr.units) (by rfl) T.bi.repr (by decide +kernel) (pa_cons (pe_o (pv 1) c_Work_call hr (by decide) (pa_cons (pv 6) (pa_cons (pv 7) pa_nil))) pa_nil)) (nomark _)) (pss_one (ps_ret pe_bl)) pss_nil))))
      (pss_one (ps_ret (pe_and (pe_cmpR op_is_bl (pe_m (pv 1) c_Work_is_like hr (by decide) (pa_cons (pv 3) pa_nil)) pe_bl (nomark _)) (pe_one (pe_cmpR op_eq (pe_cmpR (op_eqS c_Work_eq hr (by decide)) (pv 1) (pv 3) (nomark _)) (pe_cmpR (op_eqD hr.units) (pv 2) (pv 4) (nomark _)) (nomark _)))))))))), ?_⟩
    obtain ⟨a, dx, tp, fs, rfl, h1, h2, h3, h4, h5⟩ := id hW
    walk_at "go"
    rename_i u H1 hU s1
    have hR1 := hR.same s1
    walk_at "go"
    rename_i L H2 hL0 hRp s2
    have hU2 := hU.ev (Ev.same s2)
    walk_at "go"
    rename_i L3 H3 hL3 hP3 s3
    have hRp3 := hRp.same s3
    refine ⟨_, _, RwAt.dp hP3, RwAt.dp hRp3, rows_shaped _, rows_shaped _, ?_⟩
    rw [rows_eqv, decide_eq_true rfl]
    have hU3 := hU2.ev (Ev.same s3)
    obtain ⟨ua, udx, utp, ufs, rfl, u1, u2, _, _, _⟩ := id hU3
    walk_at "go"
    rename_i u4 H4 hU4 s4 L5 H5 hL5 hP5 s5
    rw [K14M.plain_plain h5] at hP5
    have hRp5 := (hRp3.same s4).same s5
    refine ⟨_, _, RwAt.dp hP5, RwAt.dp hRp5, rows_shaped _, rows_shaped _, ?_⟩
    rw [rows_eqv, decide_eq_true rfl]
    have sA : L2.Same H H5 := ((((s1.trans s2).trans s3).trans s4).trans s5)
    have hW5 := hW.ev (Ev.same sA)
    have hR5 := hR.same sA
    walk_at "go"
    rename_i L6 H6 hL6 hP6 s6
    have hR6 := hR5.same s6
    refine ⟨_, _, RwAt.dp hP6, RwAt.dp hR6, rows_shaped _, rows_shaped _, ?_⟩
    rw [rows_eqv, decide_eq_true rfl]
    have hp6 : Pot H6 p := hp.same (sA.trans s6)
    walk_at "go"
    refine for_it (walk_range (lo := 0) (n := 3)) (fun i σ H' => Hold (∃ x y z, σ = [some (.ref p), some (.ref a), some (.ref l), some (.ref ua), some (.ref L), x, y, z] ∧ Pot H' p ∧ Stay p H6 H')) (Hold.mk ⟨_, _, _, rfl, hp6, Stay.refl _ _⟩) (fun _ _ _ _ _ => trivial) (fun i y σ H7 H' hi hh hy => ?_) (fun σ H7 hh => ?_)
    · obtain ⟨x, y, z, es, hp7, s7⟩ := hh.out
      clear hh
      subst es
      obtain ⟨rfl, rfl⟩ := hy
      walk_at "go"
      rename_i lr xs H8 hlr hL8 hxs hp8 s8 d H9 d0 d1 hp9 s9
      obtain ⟨w, rfl⟩ : ∃ w : Nat, d = (w : Nat) := ⟨d.toNat, by omega⟩
      have v9 := (Ev.stay (s7.trans (s8.trans s9)) hp6 hp9)
      have a9 := v9.ins ((sA.trans s6) _ _ h1)
      have u9 := v9.ins (((s4.trans s5).trans s6) _ _ u1)
      have nlr : lr ≠ p := by
        obtain ⟨x, y, ep, _⟩ := id hp7
        exact (ne_of_none ep hlr).symm
      have hL9 := s9 _ _ nlr hL8
      walk_at "go"
      have hW9 := (hW5.ev (Ev.same s6)).ev v9
      have hU9 := ((hU3.ev (Ev.same (s4.trans s5))).ev (Ev.same s6)).ev v9
      refine ⟨.ref ua, lr, plainR ts, xs, 2 + w, rfl, hU9, hL9, hxs, by omega, by omega, fun l2 H10 hl2 hL2 s10 => ?_⟩
      clear hU9
      obtain ⟨y1, y2, y3, y4, y5⟩ := row_data (K := K) hL2 (by rw [K14M.rowB_len]; exact hxs)
      refine ⟨_, _, rfl, y1, y2, y3, y4, y5, ?_⟩
      have a10 := s10 _ _ a9
      have hL10 := s10 _ _ hL9
      walk_at "go"
      refine ⟨.ref a, lr, ts, xs, 2 + w, rfl, hW9.ev (Ev.same s10), hL10, hxs, by omega, by omega, fun l3 H11 hl3 hL3 s11 => ?_⟩
      obtain ⟨y1, y2, y3, y4, y5⟩ := row_data (K := K) hL3 (by rw [K14M.rowB_len]; exact hxs)
      refine ⟨_, _, rfl, y1, y2, y3, y4, y5, ?_⟩
      rw [K14M.row_plain (by omega) h5 hxs]
      walk_at "go"
      exact Hold.mk ⟨_, _, _, rfl, hp9.same (s10.trans s11), (s7.trans (s8.trans s9)).trans (UL.Same.stay (s10.trans s11) p)⟩
    · obtain ⟨x, y, z, es, hp7, s7⟩ := hh.out
      clear hh
      subst es
      have v7 := Ev.stay s7 hp6 hp7
      have hW7 := (hW5.ev (Ev.same s6)).ev v7
      have hU7 := ((hU3.ev (Ev.same (s4.trans s5))).ev (Ev.same s6)).ev v7
      have hR7 := hR6.stay s7 hp6 nlp
      walk_at "go"
      rename_i H8 s8
      rw [if_pos (by rw [K14M.plain_plain h5]; simp)]
      have hW8 := hW7.ev (Ev.same s8)
      have hU8 := hU7.ev (Ev.same s8)
      have i8 := s8 _ _ (v7.ins ((sA.trans s6) _ _ h1))
      have j8 := s8 _ _ (v7.ins (((s4.trans s5).trans s6) _ _ u1))
      have nf : PySem.W.notFirst K ad.c_Work (.ref ad.c_Work) = true := by simp [PySem.W.notFirst]
      walk_at "go"
      rename_i H9 s9
      have hR9 := hR7.same (s8.trans s9)
      have nL : L ≠ p := by
        obtain ⟨x, y, ep, _⟩ := hp.same s1
        exact (ne_of_none ep hL0).symm
      have hP9 := ((((hRp5.same s6).stay s7 hp6 nL).same s8).same s9)
      refine ⟨_, _, RwAt.dp hR9, RwAt.dp hP9, rows_shaped _, rows_shaped _, ?_⟩
      rw [rows_eqv]
      walk_at "go"
      rw [decide_eq_true (Eq.refl (V.bl (decide (ts = plainR ts))))]
      exact q _ (hp7.same (s8.trans s9)) (((UL.Same.stay (sA.trans s6) p).trans s7).trans (UL.Same.stay (s8.trans s9) p))
/-- _law_pair_right(pot, work, rows, mates) -/
def spPairRight (ad : Ad) : Sp := fun vs H Q _ => ∃ (p l m : Addr) (v : V) (ts us : List RT), vs = [.ref p, v, .ref l, .ref m] ∧ Pot H p ∧ l ≠ p ∧ m ≠ p ∧ WkAt ad H v ts ∧ RwAt H l ts ∧ RwAt H m us ∧ us.length ≤ 126 ∧ (∀ t ∈ us, okR t) ∧ ∀ (H' : Hp), Pot H' p → Stay p H H' → Q (.bl true) H'
abbrev st_l_pair_right : Stmt := top 39
theorem sc_l_pair_right : FnScope ["_law_pot_here", "_law_made_here", "_law_rows_now", "_law_mates", "_law_mate", "_law_due"] ["_law_pot_here", "_law_made_here", "_law_rows_now", "_law_mates"] (defScope st_l_pair_right) := ⟨rfl, rfl, rfl, by decide +kernel, rfl, by decide +kernel, by decide +kernel⟩
theorem ok_l_pair_right {f : Addr} {fd : FuncData} (F : Fun K "_law_pair_right" "_law_pair_right" st_l_pair_right f fd) (T : Txt K mg ad) (c_l_made : Cal P w K mg base 7 "_law_made" (spMade ad)) (c_l_last : Cal P w K mg base 1 "_law_last" (spLast)) (c_Work_is_like : CalM P w K mg base 7 ad.c_Work "is_like" (spWLike ad)) (k_Work_is_like_other : CalMK P w K mg base 7 ad.c_Work "is_like" ["other"] gKC (spWLike ad)) (c_Work_plain : CalM P w K mg base 6 ad.c_Work "plain" (spWPlain ad)) (c_Work_eq : CalS P w K mg base 3 ad.c_Work "__eq__" (spWEq ad)) (c_l_plain_right : CalG P w K mg base 8 "_law_plain_right" (spPlainRight ad)) (c_l_row_parts : CalG P w K mg base 5 "_law_row_parts" (spRowParts ad)) :
    FnG P w K mg base 9 f fd ["_law_pot_here", "_law_made_here", "_law_rows_now", "_law_mates"] (spPairRight ad) := by
  refine FnG.mk' F sc_l_pair_right (fun vs H Q E h => ?_) (fun cdv A outer s H vs Q E hgd hr h => ?_)
  · obtain (⟨p, l, m, v, ts, us, rfl, hp, nlp, nmp, hW, hR, hM, hl, ho, q⟩) := h
    rfl
  · obtain (⟨p, l, m, v, ts, us, rfl, hp, nlp, nmp, hW, hR, hM, hl, ho, q⟩) := h
    refine ⟨_, pss_cons (ps_set (i := 4) sc_l_pair_right.nd rfl (.inl rfl) (pe_c c_l_made hr (by decide) (by rfl) (pa_cons (pv 3) pa_nil)))
      (pss_cons (ps_set (i := 5) sc_l_pair_right.nd rfl (.inl rfl) (pe_cmpR (op_eqD hr.units) (pe_c c_l_last hr (by decide) (by rfl) (pa_cons (pv 2) pa_nil)) (pe_c c_l_last hr (by decide) (by rfl) (pa_cons (pv 3) pa_nil)) (nomark _)))
      (pss_cons (ps_if (pt_cmpR op_ne (pe_callB (r := rReprD K) (call_reprD hgd hr.units) (by rfl) T.bi.repr (by decide +kernel) (pa_cons (pe_lst (pa_cons (pe_m (pv 1) c_Work_is_like hr (by decide) (pa_cons (pv 4) pa_nil)) (pa_cons (pe_mK (pv 4) k_Work_is_like_other hr (by decide) (pk_cons (pv 1) pk_nil)) pa_nil))) pa_nil)) (pe_callB (r := rReprD K) (call_reprD hgd hr.units) (by rfl) T.bi.repr (by decide +kernel) (pa_cons (pe_lst (pa_cons (pv 5) (pa_cons (pv 5) pa_nil))) pa_nil)) (nomark _)) (pss_one (ps_ret pe_bl)) pss_nil)
      (pss_cons (ps_if (PW.pt (pw_or (pt_cmpR op_ne (pe_cmpR (op_eqS c_Work_eq hr (by decide)) (pe_m0 (pv 1) c_Work_plain hr (by decide)) (pe_m0 (pv 4) c_Work_plain hr (by decide)) (nomark _)) (pv 5) (nomark _)) (pw_or1 (pt_not (pt_val (pe_cG hgd c_l_plain_right hr (by decide) (by rfl) (pa_cons (pv 0) (pa_cons (pv 4) (pa_cons (pv 3) pa_nil))))))))) (pss_one (ps_ret pe_bl)) pss_nil)
      (pss_one (ps_ret (pe_or (pv 5) (pe_one (pe_cG hgd c_l_row_parts hr (by decide) (by rfl) (pa_cons (pv 1) (pa_cons (pv 4) pa_nil)))))))))), ?_⟩
    obtain ⟨a, dx, tp, fs, rfl, h1, h2, h3, h4, h5⟩ := id hW
    walk_at "go"
    rename_i u H1 hU s1
    have hl1 := hR.same s1
    walk_at "go"
    rename_i L1 H2 hL1 hL2 s2
    have hM2 := (hM.same s1).same s2
    walk_at "go"
    rename_i L3 H3 hL3 hL4 s3
    have hL5 := s3 _ _ hL2
    refine ⟨_, _, last_dp hL5, last_dp hL4, last_shaped _, last_shaped _, ?_⟩
    rw [last_eqv h5 ho]
    have hW3 := hW.ev (Ev.same ((s1.trans s2).trans s3))
    have hU3 := hU.ev (Ev.same (s2.trans s3))
    obtain ⟨ua, udx, utp, ufs, rfl, u1, u2, _, _, _⟩ := id hU3
    walk_at "go"
    rename_i H4 s4
    refine ⟨.ref ua, .ref a, us, ts, rfl, hU3.ev (Ev.same s4), hW3.ev (Ev.same s4), fun H5 s5 => ?_⟩
    rw [show decide (plainR us = plainR ts) = decide (plainR ts = plainR us) from decide_eq_decide.mpr eq_comm]
    generalize eB : decide (plainR ts = plainR us) = B
    walk_at "go"
    rename_i z1 hz1
    obtain ⟨y1, y2, y3, y4, y5⟩ := two_data (K := K) (H := upd H5 z1 (.lst [.bl B, .bl B])) (b := B) (c := B) upd_same
    refine ⟨_, _, rfl, y1, y2, y3, y4, y5, ?_⟩
    walk_at "go"
    rename_i z2 hz2
    obtain ⟨y1, y2, y3, y4, y5⟩ := two_data (K := K) (H := upd (upd H5 z1 (.lst [.bl B, .bl B])) z2 (.lst [.bl B, .bl B])) (b := B) (c := B) upd_same
    refine ⟨_, _, rfl, y1, y2, y3, y4, y5, ?_⟩
    have sz := (same_new (o := .lst [.bl B, .bl B]) hz1).trans (same_new (o := .lst [.bl B, .bl B]) hz2)
    have sC := (((s1.trans s2).trans s3).trans s4).trans (s5.trans sz)
    have hWz := hW.ev (Ev.same sC)
    have hUz := hU3.ev (Ev.same ((s4.trans s5).trans sz))
    generalize upd (upd H5 z1 (.lst [.bl B, .bl B])) z2 (.lst [.bl B, .bl B]) = HZ at sz sC hWz hUz ⊢
    have nf : PySem.W.notFirst K ad.c_Work (.ref ad.c_Work) = true := by simp [PySem.W.notFirst]
    walk_at "go"
    rename_i u6 H6 hU6 s6
    have j6 := s6 _ _ (((s4.trans s5).trans sz) _ _ u1)
    have hU7 := hUz.ev (Ev.same s6)
    obtain ⟨ub, ubx, ubt, ubs, rfl, w1, w2, _, _, _⟩ := id hU6
    walk_at "go"
    rename_i u8 H8 hU8 s8
    obtain ⟨uc, ucx, uct, ucs, rfl, x1, x2, _, _, _⟩ := id hU8
    have hU6b := hU6.ev (Ev.same s8)
    have w8 := s8 _ _ w1
    walk_at "go"
    rename_i H9 s9
    have sD := ((sC.trans s6).trans s8).trans s9
    have hp9 := hp.same sD
    have hM9 := hM.same sD
    have hU9 := hU7.ev (Ev.same (s8.trans s9))
    walk_at "go"
    rename_i H10 hp10 s10
    have v10 := Ev.stay s10 hp9 hp10
    have hW10 := (hW.ev (Ev.same sD)).ev v10
    have hU10 := hU9.ev v10
    cases B with
    | true =>
      rw [if_pos rfl]
      exact q _ hp10 ((UL.Same.stay sD p).trans s10)
    | false =>
      rw [if_neg Bool.false_ne_true]
      walk_at "go"
      rename_i H11 s11
      rw [eB]
      exact q _ (hp10.same s11) (((UL.Same.stay sD p).trans s10).trans (UL.Same.stay s11 p))
end
end K14
set_option Elab.async false
set_option linter.all false
set_option maxRecDepth 100000
set_option maxHeartbeats 4000000


namespace K14
open PySem L2 UL ClX
local macro_rules | `(tactic| walk_at "txt") => `(tactic| first
  | ((with_reducible show PySem.W.kitOne _ (.ref _) (.ref _) = _); first | exact Txt.ks_Work_Fill (by assumption) | exact Txt.ks_Fill_Work (by assumption))
  | ((with_reducible show PySem.W.notFirst _ _ (.ref _) = _); first | exact Txt.nf_Work_Fill (by assumption) | exact Txt.nf_Fill_Work (by assumption))
  | ((with_reducible show L2.Cls _ _); first | exact UL.CIsi.cl (Txt.i_Fill (by assumption)) | exact UL.CIsi.cl (Txt.i_Work (by assumption)))
  | ((with_reducible show UL.CIsi _ _); first | exact Txt.i_Fill (by assumption) | exact Txt.i_Work (by assumption))
  | ((with_reducible show L2.NoAttr _ _ _); first | exact Txt.n_Fill_word (by assumption) | exact Txt.n_Fill_extent (by assumption) | exact Txt.n_Work_fills (by assumption))
  | ((with_reducible show L2.TyX _ _ _ _); first | exact UL.CIsi.ty (Txt.i_Fill (by assumption)) (by walk_at "look") | exact UL.CIsi.ty (Txt.i_Work (by assumption)) (by walk_at "look"))
  | ((with_reducible show PySem.W.kitOne _ (.type _) (.ref _) = _); first | exact ((Txt.k_Fill (by assumption)) _ (by simp)).1 | exact ((Txt.k_Work (by assumption)) _ (by simp)).1)
  | ((with_reducible show _ = PySem.Value.ref _ ∨ _); first | exact .inl rfl | exact .inr ⟨_, rfl, Txt.no_Fill (by assumption)⟩)
  | fail)
open K14M (RT okR plS plainR lastW rowB)
theorem lamCx_K {X : Cx} {A : Around} {outer : List Env} {s : Shared} {H : Hp} {E : XK} {scope : Scope} {f c' : Addr} : (LamX.lamCx X A outer s H E scope f c').K = X.K := rfl
local macro_rules | `(tactic| walk_at "unkL") => `(tactic| first
  | rfl
  | (simp only [lamCx_K, UL.blk_K, UL.nox_K, UL.cxOf_K]; done)
  | (simp only [lamCx_K, UL.blk_K, UL.nox_K, UL.cxOf_K]; rfl)
  | fail)
/-- the error that a deed is to end with -/
inductive Kt where
  | work (n : Int) | many
def Kt.cls (ad : Ad) : Kt → Addr
  | .work _ => ad.c_InvalidWork
  | .many => ad.c_TooMany
def Kt.flds : Kt → List (Str × V)
  | .work n => [("position", .int n)]
  | .many => [("limit", .int 126), ("what", .str "fills")]
def Kt.row : Kt → List V
  | .work n => [.str "work", .int n, .bl true]
  | .many => [.str "fills", .int 126, .bl true]
def Ends14 (ad : Ad) (o : Kt) (H : Hp) (E : XK) : Prop := ∀ d H', H d = none → H' d = some (.xd o.flds) → L2.Same H H' → E (.ref (o.cls ad)) (some d) H'
/-- _law_told(deed): what the error says -/
def TT14 (ad : Ad) : (XK → Hp → VK → Prop) → Hp → VK → Prop := fun tl H Q => ∃ (o : Kt), (∀ (H2 : Hp) (E' : XK) (Q' : VK), L2.Same H H2 → Ends14 ad o H2 E' → tl E' H2 Q') ∧
  ∀ (l : Addr) (H' : Hp), L2.Same H H' → H l = none → H' l = some (.lst o.row) → Q (.ref l) H'
section
variable {P : Program} {w : World} {K : PySem.W.Frag} {mg : Str → Option Value} {base : Heap} {ad : Ad}
abbrev st_l_told : Stmt := top 41
theorem sc_l_told : FnScope ["_law_deed", "_law_told_here", "e"] ["_law_deed"] (defScope st_l_told) := ⟨rfl, rfl, rfl, by decide +kernel, rfl, by decide +kernel, by decide +kernel⟩
theorem gv_l_told {g : Addr} {cdv : Value}  (T : Txt K mg ad) :
    ∀ (X : Cx), X.prog = P → X.w = w → X.K = K → X.mg = mg → X.base = base → GivesV 1 X ["_law_deed", "_law_told_here", "e"] "_law_told" (defScope st_l_told) g cdv (defBody st_l_told) "_law_deed" (TT14 ad) := by
  intro X eP eW eK eM eB qn f c' o s H Q tl act hr hl hc h
  subst eP eW eK eM eB
  have hr := hr.deeper (PyProof.Rows.envOfC "_law_told" (defScope st_l_told) s.heap.objs.size g cdv)
  obtain ⟨o, h1, q⟩ := h
  · refine ⟨_, pss_cons (ps_set (i := 1) sc_l_told.nd rfl (.inl rfl) (pe_lst (pa_cons pe_str pa_nil)))
      (pss_cons (ps_tries rfl rfl sc_l_told.nd takes0 (fun W pn xe tk po => pss_one (ps_expr (act W pn xe _ _ tk)))
        (.cons (i := 2) rfl rfl ⟨rfl, by decide, .inl T.g_InvalidWork⟩ (fun a oe cls d pn hz hd => pss_one (ps_set (i := 1) sc_l_told.nd rfl (.inl rfl) (pe_lst (pa_cons pe_str (pa_cons (L2.pe_xf T.xf_InvalidWork T.xn_InvalidWork_position hz hd (pv 2)) (pa_cons (pe_callB (call_isT hz) (by rfl) T.bi.isinstance (by decide +kernel) (pa_cons (pv 2) (pa_cons (pe_bltn (v := .ty "ValueError") (by rfl) T.bi.ValueError (by decide +kernel) rfl) pa_nil))) pa_nil))))))
        (.cons (i := 2) rfl rfl ⟨rfl, by decide, .inl T.g_TooMany⟩ (fun a oe cls d pn hz hd => pss_one (ps_set (i := 1) sc_l_told.nd rfl (.inl rfl) (pe_lst (pa_cons (L2.pe_xf T.xf_TooMany T.xn_TooMany_what hz hd (pv 2)) (pa_cons (L2.pe_xf T.xf_TooMany T.xn_TooMany_limit hz hd (pv 2)) (pa_cons (pe_callB (call_isT hz) (by rfl) T.bi.isinstance (by decide +kernel) (pa_cons (pv 2) (pa_cons (pe_bltn (v := .ty "ArithmeticError") (by rfl) T.bi.ArithmeticError (by decide +kernel) rfl) pa_nil))) pa_nil))))))
        .nil)))
      (pss_one (ps_ret (pv 1)))), ?_⟩
    walk_at "go"
    rename_i p0 hn0
    have s0 := same_new (o := .lst [V.str (Str.ofString "told")]) hn0
    refine h1 _ _ _ s0 fun d H' hd hf st => ?_
    have sH := s0.trans st
    cases o with
    | work n =>
      have xb := T.xb_InvalidWork
      refine ⟨true, T.xm_InvalidWork_InvalidWork, fun _ a ha => ?_, fun z => by cases z⟩
      walk_at "go"
      refine ⟨_, _, rfl, fun u h => h, xb, rfl, ?_⟩
      walk_at "go"
      rename_i pz hpz
      exact q pz _ (sH.trans (same_new hpz)) (UL.Same.none sH hpz) upd_same
    | many =>
      have xb := T.xb_TooMany
      refine ⟨false, T.xm_TooMany_InvalidWork, fun z => (by cases z), fun _ => ⟨true, T.xm_TooMany_TooMany, fun _ a ha => ?_, fun z => by cases z⟩⟩
      walk_at "go"
      refine ⟨_, _, rfl, fun u h => h, xb, rfl, ?_⟩
      walk_at "go"
      rename_i pz hpz
      exact q pz _ (sH.trans (same_new hpz)) (UL.Same.none sH hpz) upd_same
/-- _law_long(fill, more) -/
def spLong (K : PySem.W.Frag) (ad : Ad) : Sp := fun vs H Q E => ∃ (u m : V) (o : Kt), vs = [u, m] ∧ GoodF ad H u ∧ ((BadF K ad H m ∧ o = .work 126) ∨ (GoodF ad H m ∧ o = .many)) ∧ Ends14 ad o H E
theorem longR {H : Hp} {x dx : Addr} {u m : V} {o : Kt} {R : VK} {E : XK} (nx : H x = none) (nd_ : H dx = none) (ne : dx ≠ x) (hu : GoodF ad H u) (hm : (BadF K ad H m ∧ o = .work 126) ∨ (GoodF ad H m ∧ o = .many)) (hE : Ends14 ad o H E) :
    spWorkR K ad (.ref x :: (List.replicate 126 u ++ [m])) (upd (upd H dx (.own x)) x (.ins ad.c_Work dx [])) R E := by
  have s1 : L2.Same H (upd H dx (.own x)) := same_new nd_
  have n2 : upd H dx (.own x) x = none := by rw [upd_ne ne.symm]; exact nx
  have s2 := s1.trans (same_new (o := .ins ad.c_Work dx []) n2)
  have ends : ∀ d H', upd (upd H dx (.own x)) x (.ins ad.c_Work dx []) d = none → H' d = some (.xd o.flds) → L2.Same (upd (upd H dx (.own x)) x (.ins ad.c_Work dx [])) H' → E (.ref (o.cls ad)) (some d) H' := fun d H' hd hf st => hE d H' (UL.Same.none s2 hd) hf (s2.trans st)
  have l7 : (List.replicate 126 u ++ [m]).length = 127 := by simp
  have lo : ∀ (i : Nat) (v : V), i < 126 → (List.replicate 126 u ++ [m])[i]? = some v → GoodF ad (upd (upd H dx (.own x)) x (.ins ad.c_Work dx [])) v := fun i v a b => by
    rw [List.getElem?_append_left (by simp; omega), List.getElem?_replicate, if_pos a] at b
    cases b
    exact hu.ev (Ev.same s2)
  have hi : (List.replicate 126 u ++ [m])[126]? = some m := by
    rw [List.getElem?_append_right (by simp)]
    simp
  unfold spWorkR
  rcases hm with ⟨bad, rfl⟩ | ⟨good, rfl⟩
  · exact ⟨x, dx, _, 126, rfl, by omega, upd_same, lo, .inl ⟨m, hi, bad.ev (Ev.same s2), ends⟩⟩
  · refine ⟨x, dx, _, 127, rfl, by omega, upd_same, fun i v a b => ?_, .inr (.inl ⟨l7.symm, by omega, ends⟩)⟩
    by_cases c : i < 126
    · exact lo i v c b
    · rw [show i = 126 by omega, hi] at b
      cases b
      exact good.ev (Ev.same s2)
abbrev st_l_long : Stmt := top 42
theorem sc_l_long : FnScope ["_law_f", "_law_more"] ["_law_f", "_law_more"] (defScope st_l_long) := ⟨rfl, rfl, rfl, by decide +kernel, rfl, by decide +kernel, by decide +kernel⟩
theorem ok_l_long {f : Addr} {fd : FuncData} (F : Fun K "_law_long" "_law_long" st_l_long f fd) (T : Txt K mg ad) (m_Work : MakRE P w K mg base 4 "Work" ad.c_Work (spWorkR K ad)) :
    FnOk P w K mg base (L2.CX P w) 6 f fd ["_law_f", "_law_more"] (spLong K ad) := by
  refine F.okX sc_l_long (fun vs H Q E h => ?_) (fun cdv A outer s H vs Q E hr h => ?_)
  · obtain (⟨u, m, o, rfl, hu, hm, hE⟩) := h
    rfl
  · obtain (⟨u, m, o, rfl, hu, hm, hE⟩) := h
    refine ⟨_, pss_one (ps_ret (pe_nRE m_Work (px_def rfl rfl rfl rfl) hr (by decide) (by rfl) (pa_cons (pv 0) (pa_cons (pv 0) (pa_cons (pv 0) (pa_cons (pv 0) (pa_cons (pv 0) (pa_cons (pv 0) (pa_cons (pv 0) (pa_cons (pv 0) (pa_cons (pv 0) (pa_cons (pv 0) (pa_cons (pv 0) (pa_cons (pv 0) (pa_cons (pv 0) (pa_cons (pv 0) (pa_cons (pv 0) (pa_cons (pv 0) (pa_cons (pv 0) (pa_cons (pv 0) (pa_cons (pv 0) (pa_cons (pv 0) (pa_cons (pv 0) (pa_cons (pv 0) (pa_cons (pv 0) (pa_cons (pv 0) (pa_cons (pv 0) (pa_cons (pv 0) (pa_cons (pv 0) (pa_cons (pv 0) (pa_cons (pv 0) (pa_cons (pv 0) (pa_cons (pv 0) (pa_cons (pv 0) (pa_cons (pv 0) (pa_cons (pv 0) (pa_cons (pv 0) (pa_cons (pv 0) (pa_cons (pv 0) (pa_cons (pv 0) (pa_cons (pv 0) (pa_cons (pv 0) (pa_cons (pv 0) (pa_cons (pv 0) (pa_cons (pv 0) (pa_cons (pv 0) (pa_cons (pv 0) (pa_cons (pv 0) (pa_cons (pv 0) (pa_cons (pv 0) (pa_cons (pv 0) (pa_cons (pv 0) (pa_cons (pv 0) (pa_cons (pv 0) (pa_cons (pv 0) (pa_cons (pv 0) (pa_cons (pv 0) (pa_cons (pv 0) (pa_cons (pv 0) (pa_cons (pv 0) (pa_cons (pv 0) (pa_cons (pv 0) (pa_cons (pv 0) (pa_cons (pv 0) (pa_cons (pv 0) (pa_cons (pv 0) (pa_cons (pv 0) (pa_cons (pv 0) (pa_cons (pv 0) (pa_cons (pv 0) (pa_cons (pv 0) (pa_cons (pv 0) (pa_cons (pv 0) (pa_cons (pv 0) (pa_cons (pv 0) (pa_cons (pv 0) (pa_cons (pv 0) (pa_cons (pv 0) (pa_cons (pv 0) (pa_cons (pv 0) (pa_cons (pv 0) (pa_cons (pv 0) (pa_cons (pv 0) (pa_cons (pv 0) (pa_cons (pv 0) (pa_cons (pv 0) (pa_cons (pv 0) (pa_cons (pv 0) (pa_cons (pv 0) (pa_cons (pv 0) (pa_cons (pv 0) (pa_cons (pv 0) (pa_cons (pv 0) (pa_cons (pv 0) (pa_cons (pv 0) (pa_cons (pv 0) (pa_cons (pv 0) (pa_cons (pv 0) (pa_cons (pv 0) (pa_cons (pv 0) (pa_cons (pv 0) (pa_cons (pv 0) (pa_cons (pv 0) (pa_cons (pv 0) (pa_cons (pv 0) (pa_cons (pv 0) (pa_cons (pv 0) (pa_cons (pv 0) (pa_cons (pv 0) (pa_cons (pv 0) (pa_cons (pv 0) (pa_cons (pv 0) (pa_cons (pv 0) (pa_cons (pv 0) (pa_cons (pv 0) (pa_cons (pv 0) (pa_cons (pv 0) (pa_cons (pv 0) (pa_cons (pv 0) (pa_cons (pv 0) (pa_cons (pv 0) (pa_cons (pv 0) (pa_cons (pv 0) (pa_cons (pv 0) (pa_cons (pv 0) (pa_cons (pv 0) (pa_cons (pv 0) (pa_cons (pv 0) (pa_cons (pv 1) pa_nil))))))))))))))))))))))))))))))))))))))))))))))))))))))))))))))))))))))))))))))))))))))))))))))))))))))))))))))))))))))))))))))))), ?_⟩
    walk_at "go"
    rename_i x dx nx nd_ ne
    exact longR nx nd_ ne hu hm hE
end
end K14
set_option Elab.async false
set_option linter.all false
set_option maxRecDepth 100000
set_option maxHeartbeats 4000000


namespace K14
open PySem L2 UL ClX
local macro_rules | `(tactic| walk_at "txt") => `(tactic| first
  | ((with_reducible show PySem.W.kitOne _ (.ref _) (.ref _) = _); first | exact Txt.ks_Work_Fill (by assumption) | exact Txt.ks_Fill_Work (by assumption))
  | ((with_reducible show PySem.W.notFirst _ _ (.ref _) = _); first | exact Txt.nf_Work_Fill (by assumption) | exact Txt.nf_Fill_Work (by assumption))
  | ((with_reducible show L2.Cls _ _); first | exact UL.CIsi.cl (Txt.i_Fill (by assumption)) | exact UL.CIsi.cl (Txt.i_Work (by assumption)))
  | ((with_reducible show UL.CIsi _ _); first | exact Txt.i_Fill (by assumption) | exact Txt.i_Work (by assumption))
  | ((with_reducible show L2.NoAttr _ _ _); first | exact Txt.n_Fill_word (by assumption) | exact Txt.n_Fill_extent (by assumption) | exact Txt.n_Work_fills (by assumption))
  | ((with_reducible show L2.TyX _ _ _ _); first | exact UL.CIsi.ty (Txt.i_Fill (by assumption)) (by walk_at "look") | exact UL.CIsi.ty (Txt.i_Work (by assumption)) (by walk_at "look"))
  | ((with_reducible show PySem.W.kitOne _ (.type _) (.ref _) = _); first | exact ((Txt.k_Fill (by assumption)) _ (by simp)).1 | exact ((Txt.k_Work (by assumption)) _ (by simp)).1)
  | ((with_reducible show _ = PySem.Value.ref _ ∨ _); first | exact .inl rfl | exact .inr ⟨_, rfl, Txt.no_Fill (by assumption)⟩)
  | fail)
open K14M (RT okR plS plainR lastW rowB loneR)
local macro_rules | `(tactic| walk_at "unkL") => `(tactic| first
  | rfl
  | (simp only [lamCx_K, UL.blk_K, UL.nox_K, UL.cxOf_K]; done)
  | (simp only [lamCx_K, UL.blk_K, UL.nox_K, UL.cxOf_K]; rfl)
  | fail)
def tabsG (PM : Addr) : List (Addr × Str) := [(PM, ("_law_great_right" : Str) ++ ".<locals>." ++ "<lambda>")]
def rep (n : Nat) (ts : List RT) : List RT := (List.replicate n ts).flatten
theorem rep_add (m n : Nat) (ts : List RT) : rep m ts ++ rep n ts = rep (m + n) ts := by
  unfold rep
  rw [← List.flatten_append, List.replicate_append_replicate]
theorem rep_len (n : Nat) (ts : List RT) : (rep n ts).length = n * ts.length := by
  unfold rep
  rw [List.length_flatten, List.map_replicate, List.sum_replicate_nat]
theorem RowsL.rep {H : Hp} {rs : List V} {ts : List RT} (h : RowsL H rs ts) : ∀ n : Nat, RowsL H (List.replicate n rs).flatten (rep n ts)
  | 0 => RowsL.nil
  | n + 1 => by
    unfold K14.rep
    rw [List.replicate_succ, List.replicate_succ, List.flatten_cons, List.flatten_cons]
    exact h.app (RowsL.rep h n)
theorem six_pow {i : Nat} {y : V} (h : [V.int 2, V.int 4, V.int 8, V.int 16, V.int 32, V.int 64][i]? = some y) : y = .int ((2 ^ (i + 1) : Nat) : Int) := by
  match i, h with
  | 0, h => cases h; rfl
  | 1, h => cases h; rfl
  | 2, h => cases h; rfl
  | 3, h => cases h; rfl
  | 4, h => cases h; rfl
  | 5, h => cases h; rfl
  | n + 6, h => cases h
theorem six_case {i : Nat} (h : i < 6) : (i < 5 ∧ 2 ^ (i + 1) < 64 ∧ 2 ^ (min i 5) = 2 ^ i ∧ 2 ^ (min (i + 1) 5) = 2 ^ i + 2 ^ i ∧ 2 ^ i ≤ 16) ∨ (i = 5 ∧ 2 ^ (i + 1) = 64) := by
  have : i = 0 ∨ i = 1 ∨ i = 2 ∨ i = 3 ∨ i = 4 ∨ i = 5 := by omega
  rcases this with rfl | rfl | rfl | rfl | rfl | rfl
  · exact .inl (by decide)
  · exact .inl (by decide)
  · exact .inl (by decide)
  · exact .inl (by decide)
  · exact .inl (by decide)
  · exact .inr (by decide)
theorem six_sum {i : Nat} (h : i < 6) : (2 ^ i - 1) + 2 ^ (min i 5) = 2 ^ (i + 1) - 1 ∧ 2 ^ (i + 1) - 1 ≤ 63 := by
  have : i = 0 ∨ i = 1 ∨ i = 2 ∨ i = 3 ∨ i = 4 ∨ i = 5 := by omega
  rcases this with rfl | rfl | rfl | rfl | rfl | rfl <;> decide
theorem WkAt.ok {ad : Ad} {H : Hp} {v : V} {ts : List RT} (h : WkAt ad H v ts) : ∀ t ∈ ts, okR t := by
  obtain ⟨a, dx, tp, fs, e, h1, h2, h3, h4, h5⟩ := h
  exact h5
structure GF (ad : Ad) (fa fdx ftp l : Addr) (ts : List RT) (rs : List V) (H : Hp) : Prop where
  F : WkAt ad H (.ref fa) (rep 63 ts)
  f : H fa = some (.ins ad.c_Work fdx [("_fills", .ref ftp)])
  l : H l = some (.lst rs)
  r : RowsL H rs ts
section
variable {ad : Ad} {fa fdx ftp l : Addr} {ts : List RT} {rs : List V} {H H' : Hp}
theorem GF.same (h : GF ad fa fdx ftp l ts rs H) (s : L2.Same H H') : GF ad fa fdx ftp l ts rs H' := ⟨h.F.ev (Ev.same s), s _ _ h.f, s _ _ h.l, h.r.ev (Ev.same s)⟩
theorem GF.stay {p : Addr} (h : GF ad fa fdx ftp l ts rs H) (s : Stay p H H') (hp : Pot H p) (hp' : Pot H' p) (nl : l ≠ p) : GF ad fa fdx ftp l ts rs H' := ⟨h.F.ev (Ev.stay s hp hp'), (Ev.stay s hp hp').ins h.f, s _ _ nl h.l, h.r.ev (Ev.stay s hp hp')⟩
theorem GF.ext (h : GF ad fa fdx ftp l ts rs H) (s : LamX.ExtN H H') : GF ad fa fdx ftp l ts rs H' := ⟨h.F.ev (Ev.ext s), (Ev.ext s).ins h.f, s _ _ h.l (fun _ z => by cases z), h.r.ev (Ev.ext s)⟩
end
theorem Ends14.same {ad : Ad} {o : Kt} {H H' : Hp} {E : XK} (h : Ends14 ad o H E) (s : L2.Same H H') : Ends14 ad o H' E := fun d H2 hd hf st => h d H2 (UL.Same.none s hd) hf (s.trans st)
/-- a kept lambda that ends so, whatever its maker's frame is then like -/
def LamG (ad : Ad) (X : Cx) (k : Nat) (S : L2.St → Prop) (o : Kt) (v : V) (H : Hp) : Prop := ∃ (f : Addr) (t : XK → TE), v = .ref f ∧ Kept X k t f H ∧ ∀ σ, S σ → ∀ (H2 : Hp) (E' : XK) (Q' : VK), Ev H H2 → Ends14 ad o H2 E' → t E' σ H2 Q'
theorem LamG.ev {ad : Ad} {X : Cx} {k : Nat} {S : L2.St → Prop} {o : Kt} {v : V} {H H' : Hp} (h : LamG ad X k S o v H) (e : Ev H H') : LamG ad X k S o v H' := by
  obtain ⟨f, t, h1, h2, h3⟩ := h
  exact ⟨f, t, h1, Kept.ev h2 e, fun σ s H2 E' Q' e2 en => h3 σ s H2 E' Q' (e.trans e2) en⟩
structure LS (ad : Ad) (X : Cx) (k n : Nat) (S : L2.St → Prop) (o : Kt) (L : Addr) (T : List (Addr × Str)) (p : Addr) (G H0 H : Hp) : Prop where
  rows : ∃ xs, H L = some (.lst xs) ∧ xs.length = n ∧ ∀ x ∈ xs, LamG ad X k S o x H
  tb : LamX.Tabs T H
  pot : Pot H p
  ev : Ev H0 H
  nL : L ≠ p
  nw : ∀ o, G L = some o → ∃ ps, o = .tbl ps
  gf : StT p G H
theorem LS.one {ad : Ad} {X : Cx} {k : Nat} {S : L2.St → Prop} {o : Kt} {L f p : Addr} {T : List (Addr × Str)} {t : XK → TE} {H H1 : Hp} (hp : Pot H p) (ex : LamX.ExtN H H1) (tb : LamX.Tabs T H1) (kp : Kept X k t f H1) (hL : H1 L = none)
    (g : ∀ σ, S σ → ∀ (H2 : Hp) (E' : XK) (Q' : VK), Ev H1 H2 → Ends14 ad o H2 E' → t E' σ H2 Q') : LS ad X k 1 S o L T p H H (upd H1 L (.lst [.ref f])) := by
  have p1 := pot_ext hp ex
  have s2 := same_new (o := .lst [.ref f]) hL
  refine ⟨⟨_, upd_same, rfl, fun x hx => ?_⟩, tabs_keep tb (UL.Same.keep s2), Pot.same p1 s2, (Ev.ext ex).trans (Ev.same s2), ne_pot hL p1, fun o e => ?_, fun b o _ e t => s2 _ _ (ex _ _ e t)⟩
  · rw [List.mem_singleton.mp hx]
    exact LamG.ev ⟨f, t, rfl, kp, g⟩ (Ev.same s2)
  · apply Classical.byContradiction
    intro n
    have e1 := ex _ _ e (fun ps z => n ⟨ps, z⟩)
    rw [hL] at e1
    cases e1
theorem LS.add {ad : Ad} {X : Cx} {k n : Nat} {S : L2.St → Prop} {o : Kt} {L f p : Addr} {T : List (Addr × Str)} {t : XK → TE} {G H0 H H1 : Hp} {xs : List V} (r : LS ad X k n S o L T p G H0 H) (ex : LamX.ExtN H H1) (tb : LamX.Tabs T H1) (kp : Kept X k t f H1) (hL : H L = some (.lst xs))
    (g : ∀ σ, S σ → ∀ (H2 : Hp) (E' : XK) (Q' : VK), Ev H1 H2 → Ends14 ad o H2 E' → t E' σ H2 Q') : LS ad X k (n + 1) S o L T p G H0 (upd H1 L (.lst (xs ++ [.ref f]))) := by
  have l1 : H1 L = some (.lst xs) := ex _ _ hL (fun _ z => by cases z)
  have e2 : Ev H1 (upd H1 L (.lst (xs ++ [.ref f]))) := Ev.put l1
  obtain ⟨ys, y1, y2, y3⟩ := r.rows
  rw [hL] at y1
  cases y1
  refine ⟨⟨_, upd_same, by rw [List.length_append, y2]; rfl, fun x hx => ?_⟩, tabs_keep tb (keep_put l1), ?_, r.ev.trans ((Ev.ext ex).trans e2), r.nL, r.nw, fun b o n e t => ?_⟩
  · rcases List.mem_append.mp hx with h | h
    · exact (y3 x h).ev ((Ev.ext ex).trans e2)
    · rw [List.mem_singleton.mp h]
      exact LamG.ev ⟨f, t, rfl, kp, g⟩ e2
  · obtain ⟨x, y, h1, h2⟩ := pot_ext r.pot ex
    exact ⟨x, y, by rw [upd_ne r.nL.symm]; exact h1, h2⟩
  · have nbL : b ≠ L := fun z => by
      subst z
      obtain ⟨ps, z⟩ := r.nw o e
      exact t ps z
    rw [upd_ne nbL]
    exact ex _ _ (r.gf b o n e t) t
def RD : PyData := .list [.str "fills", .int 126, .bool true]
def SG (p l fa : Addr) (PV : V) : L2.St → Prop := fun σ => ∃ x4 x5 x6 x7, σ = [some (.ref p), some (.ref l), some (.ref fa), some PV, x4, x5, x6, x7]
section
variable {P : Program} {w : World} {K : PySem.W.Frag} {mg : Str → Option Value} {base : Heap} {ad : Ad}
theorem freeR {H1 : Hp} {x dx : Addr} {R : VK} {E : XK} (nx : H1 x = none) (nd_ : H1 dx = none) (ne : dx ≠ x) (q : ∀ H', L2.Same H1 H' → FillAt ad H' (.ref x) "free" .non → R .non H') :
    spFillI ad [.ref x, .str "free", .non] (upd (upd H1 dx (.own x)) x (.ins ad.c_Fill dx [])) R E := by
  have s1 : L2.Same H1 (upd H1 dx (.own x)) := same_new nd_
  have n2 : upd H1 dx (.own x) x = none := by rw [upd_ne ne.symm]; exact nx
  have s2 := s1.trans (same_new (o := .ins ad.c_Fill dx []) n2)
  unfold spFillI
  exact ⟨x, dx, "free", .non, rfl, .inl ⟨rfl, rfl⟩, upd_same, fun H' h st => q H' (fun b o e => st b o (ne_of_none e nx) (s2 b o e)) ⟨x, dx, rfl, h⟩⟩
def spGreat (PM : Addr) : Sp := fun vs H Q _ => ∃ p : Addr, vs = [.ref p] ∧ Pot H p ∧ LamX.Tabs (tabsG PM) H ∧ ∀ H' : Hp, LamX.Tabs (tabsG PM) H' → StT p H H' → Q (.bl true) H'
set_option maxHeartbeats 40000000
abbrev st_l_great_right : Stmt := top 43
theorem sc_l_great_right : FnScope ["_law_pot_here", "_law_rows_now", "_law_found", "_law_pair", "_law_size", "_law_cases", "_law_deed", "_law_wrong"] ["_law_pot_here"] (defScope st_l_great_right) := ⟨rfl, rfl, rfl, by decide +kernel, rfl, by decide +kernel, by decide +kernel⟩
abbrev X_l_great_right (P : Program) (w : World) (K : PySem.W.Frag) (mg : Str → Option Value) (base : Heap) (f : Addr) (cdv : Value) (A : Around) (outer : List Env) (s : Shared) (H : Hp) (E : XK) : Cx := (cxOf CX0 P w K mg base ["_law_pot_here", "_law_rows_now", "_law_found", "_law_pair", "_law_size", "_law_cases", "_law_deed", "_law_wrong"] "_law_great_right" (defScope st_l_great_right) f cdv A outer s H E).nox
theorem ok_l_great_right {f : Addr} {fd : FuncData} {cM PM : Addr} (F : FunC K "_law_great_right" "_law_great_right" st_l_great_right f fd cM) (TB : LamX.TabB base mg cM PM) (c_l_rows : Cal P w K mg base 3 "_law_rows" (spRows)) (m_Work : MakRE P w K mg base 4 "Work" ad.c_Work (spWorkR K ad)) (c_l_made : Cal P w K mg base 7 "_law_made" (spMade ad)) (c_Work_add : CalSE P w K mg base 6 ad.c_Work "__add__" (spWAdd K ad)) (c_Work_len : CalS P w K mg base 1 ad.c_Work "__len__" (spWLen ad)) (c_l_parts : Cal P w K mg base 3 "_law_parts" (spParts ad)) (m_Fill_0 : Mak P w K mg base 3 "Fill" ad.c_Fill [.str "free", .non] (spFillI ad)) (c_l_plain_right : CalG P w K mg base 8 "_law_plain_right" (spPlainRight ad)) (m_Fill_2 : Mak P w K mg base 3 "Fill" ad.c_Fill [] (spFillI ad)) (c_l_long : CalE P w K mg base 6 "_law_long" (spLong K ad)) (c_l_told : CalLV P w K mg base 1 "_law_told" "_law_deed" (TT14 ad)) (c_l_pick : Cal P w K mg base 2 "_law_pick" (spPick1 K)) (T : Txt K mg ad) :
    FnG P w K mg base 9 f fd ["_law_pot_here"] ((spGreat PM)) := by
  refine FnG.mkC F sc_l_great_right (fun vs H Q E h => ?_) (fun A outer s H vs Q E hgd hr h => ?_)
  · obtain (⟨p, rfl, hp, hT, q⟩) := h
    rfl
  · obtain (⟨p, rfl, hp, hT, q⟩) := h
    refine ⟨_, pss_cons (ps_set (i := 1) sc_l_great_right.nd rfl (.inl rfl) (pe_c c_l_rows hr (by decide) (by rfl) (pa_cons (pv 0) (pa_cons pe_int pa_nil))))
      (pss_cons (ps_asg (pe_tup (pa_cons (pe_nR0E m_Work px_none hr (by decide) (by rfl)) (pa_cons (pe_c c_l_made hr (by decide) (by rfl) (pa_cons (pv 1) pa_nil)) pa_nil))) (pg_tup rfl (pgs_cons (pg_name (i := 2) sc_l_great_right.nd rfl (Or.inr rfl)) (pgs_cons (pg_name (i := 3) sc_l_great_right.nd rfl (Or.inl rfl)) pgs_nil))))
      (pss_cons (ps_for PassesOwn.never rfl (pi_list (pe_lst (pa_cons pe_int (pa_cons pe_int (pa_cons pe_int (pa_cons pe_int (pa_cons pe_int (pa_cons pe_int pa_nil)))))))) (pg_name (i := 4) sc_l_great_right.nd rfl (Or.inl rfl))
        (pss_cons (ps_set (i := 2) sc_l_great_right.nd rfl (.inr rfl) (pe_op (op_addSAE c_Work_add px_none T.sf_Work hr (by decide)) (pv 2) (pv 3)))
          (pss_one (ps_set (i := 3) sc_l_great_right.nd rfl (.inl rfl) (pe_ifExp (pt_cmpR op_lt (pv 4) pe_int (nomark _)) (pe_op (op_addSAE c_Work_add px_none T.sf_Work hr (by decide)) (pv 3) (pv 3)) (pv 3))))))
      (pss_cons (ps_if (PW.pt (pw_or (pt_cmpR op_ne (pe_callB (call_lenS c_Work_len hr (by decide)) (by rfl) T.bi.len (by decide +kernel) (pa_cons (pv 2) pa_nil)) pe_int (nomark _)) (pw_or1 (pt_cmpR (op_neD hr.units) (pe_c c_l_parts hr (by decide) (by rfl) (pa_cons (pv 2) pa_nil)) (pe_op op_rep (pv 1) pe_int) (nomark _))))) (pss_one (ps_ret pe_bl)) pss_nil)
      (pss_cons (ps_if (pt_cmpR (op_neD hr.units) (pe_c c_l_parts hr (by decide) (by rfl) (pa_cons (pe_op (op_addSAE c_Work_add px_none T.sf_Work hr (by decide)) (pv 2) (pe_n0 m_Fill_0 hr (by decide) (by rfl))) pa_nil)) (pe_op op_rep (pv 1) pe_int) (nomark _)) (pss_one (ps_ret pe_bl)) pss_nil)
      (pss_cons (ps_if (PW.pt (pw_or (pt_not (pt_val (pe_cG hgd c_l_plain_right hr (by decide) (by rfl) (pa_cons (pv 0) (pa_cons (pv 2) (pa_cons (pe_op op_rep (pv 1) pe_int) pa_nil)))))) (pw_or1 (pt_cmpR op_ne (pe_callB (call_lenS c_Work_len hr (by decide)) (by rfl) T.bi.len (by decide +kernel) (pa_cons (pe_op (op_addSAE c_Work_add px_none T.sf_Work hr (by decide)) (pv 2) (pe_nR0E m_Work px_none hr (by decide) (by rfl))) pa_nil)) pe_int (nomark _))))) (pss_one (ps_ret pe_bl)) pss_nil)
      (pss_cons (ps_set (i := 5) sc_l_great_right.nd rfl (.inl rfl) (pe_lst (pa_cons (pe_lamD (T := (tabsG PM)) TB rfl (List.mem_singleton.mpr rfl) (fun p hp _ => by rw [List.mem_singleton.mp hp]; rfl) hr (show LamX.LamS (defScope st_l_great_right) _ from LamX.lamS_by (by decide +kernel)) rfl (fun _ _ _ _ _ => rfl) (by exact fun A outer s H E f c' hrL => UL.pe_conv (pe_op (op_addSAE c_Work_add (px_def rfl rfl rfl rfl) T.sf_Work hrL (by decide)) (pv 2) (pe_n m_Fill_2 hrL (by decide) (by rfl) (pa_cons pe_str (pa_cons pe_int pa_nil)))) (by walk_at "unkL"))) pa_nil)))
      (pss_cons (ps_expr (pe_bm PySem.F.plainAttrs_list PySem.F.slot_list_append PySem.F.type_list_append mt_append (pv 5) (pa_cons (pe_lamD (T := (tabsG PM)) TB rfl (List.mem_singleton.mpr rfl) (fun p hp _ => by rw [List.mem_singleton.mp hp]; rfl) hr (show LamX.LamS (defScope st_l_great_right) _ from LamX.lamS_by (by decide +kernel)) rfl (fun _ _ _ _ _ => rfl) (by exact fun A outer s H E f c' hrL => UL.pe_conv (pe_op (op_addSAE c_Work_add (px_def rfl rfl rfl rfl) T.sf_Work hrL (by decide)) (pv 2) (pv 2)) (by walk_at "unkL"))) pa_nil)))
      (pss_cons (ps_expr (pe_bm PySem.F.plainAttrs_list PySem.F.slot_list_append PySem.F.type_list_append mt_append (pv 5) (pa_cons (pe_lamD (T := (tabsG PM)) TB rfl (List.mem_singleton.mpr rfl) (fun p hp _ => by rw [List.mem_singleton.mp hp]; rfl) hr (show LamX.LamS (defScope st_l_great_right) _ from LamX.lamS_by (by decide +kernel)) rfl (fun _ _ _ _ _ => rfl) (by exact fun A outer s H E f c' hrL => UL.pe_conv (pe_op (op_addSAE c_Work_add (px_def rfl rfl rfl rfl) T.sf_Work hrL (by decide)) (pe_nRE m_Work (px_def rfl rfl rfl rfl) hrL (by decide) (by rfl) (pa_cons (pe_n m_Fill_2 hrL (by decide) (by rfl) (pa_cons pe_str (pa_cons pe_int pa_nil))) pa_nil)) (pv 2)) (by walk_at "unkL"))) pa_nil)))
      (pss_cons (ps_expr (pe_bm PySem.F.plainAttrs_list PySem.F.slot_list_append PySem.F.type_list_append mt_append (pv 5) (pa_cons (pe_lamD (T := (tabsG PM)) TB rfl (List.mem_singleton.mpr rfl) (fun p hp _ => by rw [List.mem_singleton.mp hp]; rfl) hr (show LamX.LamS (defScope st_l_great_right) _ from LamX.lamS_by (by decide +kernel)) rfl (fun _ _ _ _ _ => rfl) (by exact fun A outer s H E f c' hrL => UL.pe_conv (pe_cE c_l_long (px_def rfl rfl rfl rfl) hrL (by decide) (by rfl) (pa_cons (pe_n m_Fill_2 hrL (by decide) (by rfl) (pa_cons pe_str (pa_cons pe_int pa_nil))) (pa_cons (pe_n m_Fill_2 hrL (by decide) (by rfl) (pa_cons pe_str (pa_cons pe_int pa_nil))) pa_nil))) (by walk_at "unkL"))) pa_nil)))
      (pss_cons (ps_if (PW.pt (pw_or (pt_cmpR (op_neD hr.units) (pe_lcIn (own := [("_law_deed", 6)]) (g := gName 6) (tt := tYes) rfl sc_l_great_right.nd (pi_list (pv 5)) (blkOk_by (N := ["_law_pot_here", "_law_rows_now", "_law_found", "_law_pair", "_law_size", "_law_cases", "_law_deed", "_law_wrong"]) (sc := defScope st_l_great_right) (by decide +kernel)) (fun _ _ _ _ _ => pg_name (i := 6) sc_l_great_right.nd rfl (Or.inl rfl)) (fun _ _ _ _ _ => pts_nil) (fun pinsB σB sB HB CB clB fpB IB fB => UL.pe_conv (pe_toldB IB fB c_l_told (by rfl) hr (by decide) (by decide) (pa_cons (pv 6) pa_nil)) (by walk_at "unk"))) (pe_op op_rep (pe_lst (pa_cons (pe_lst (pa_cons pe_str (pa_cons pe_int (pa_cons pe_bl pa_nil)))) pa_nil)) pe_int) (nomark _)) (pw_or1 (pt_cmpR op_ne (pe_callB (call_lenS c_Work_len hr (by decide)) (by rfl) T.bi.len (by decide +kernel) (pa_cons (pv 2) pa_nil)) pe_int (nomark _))))) (pss_one (ps_ret pe_bl)) pss_nil)
      (pss_cons (ps_set (i := 7) sc_l_great_right.nd rfl (.inr rfl) (pe_c c_l_pick hr (by decide) (by rfl) (pa_cons (pv 0) (pa_cons (pe_lst (pa_cons pe_non (pa_cons (pe_n0 m_Fill_0 hr (by decide) (by rfl)) (pa_cons (pv 2) (pa_cons pe_str pa_nil))))) pa_nil))))
      (pss_one (ps_ret (pe_cmpR (op_eqD hr.units) (pe_toldV c_l_told (by rfl) hr (by decide) (by decide) (pa_cons (pe_lamD (T := (tabsG PM)) TB rfl (List.mem_singleton.mpr rfl) (fun p hp _ => by rw [List.mem_singleton.mp hp]; rfl) hr (show LamX.LamS (defScope st_l_great_right) _ from LamX.lamS_by (by decide +kernel)) rfl (fun _ _ _ _ _ => rfl) (by exact fun A outer s H E f c' hrL => UL.pe_conv (pe_cE c_l_long (px_def rfl rfl rfl rfl) hrL (by decide) (by rfl) (pa_cons (pe_n m_Fill_2 hrL (by decide) (by rfl) (pa_cons pe_str (pa_cons pe_int pa_nil))) (pa_cons (pv 7) pa_nil))) (by walk_at "unkL"))) pa_nil)) (pe_lst (pa_cons pe_str (pa_cons pe_int (pa_cons pe_bl pa_nil)))) (nomark _))))))))))))))), ?_⟩
    walk_at "go"
    rename_i l ts H1 hl0 hR1 h2 ho hp1 st1 x dx nx nd_ ne
    have nlp : l ≠ p := by
      obtain ⟨x, y, ep, _⟩ := id hp
      exact (ne_of_none ep hl0).symm
    refine wkR (ws := []) (ts := []) nx nd_ ne FsAt.nil (by decide) (fun _ h => by cases h) fun H2 s2 hW2 => ⟨rfl, ?_⟩
    have hR2 := hR1.same s2
    have e2 : ts.length = 2 := h2
    clear h2
    have hl2 : ts.length ≤ 126 := by omega
    walk_at "go"
    rename_i P0 H3 hP3 s3 y0 hy0 z hz
    have s4 : L2.Same H3 (upd (upd H3 y0 (.tup [.ref x, P0])) z (.lst [.int 2, .int 4, .int 8, .int 16, .int 32, .int 64])) := (same_new hy0).trans (same_new hz)
    have hz4 : upd (upd H3 y0 (.tup [.ref x, P0])) z (.lst [.int 2, .int 4, .int 8, .int 16, .int 32, .int 64]) z = some (.lst [.int 2, .int 4, .int 8, .int 16, .int 32, .int 64]) := upd_same
    generalize upd (upd H3 y0 (.tup [.ref x, P0])) z (.lst [.int 2, .int 4, .int 8, .int 16, .int 32, .int 64]) = H4 at s4 hz4 ⊢
    have s24 := s3.trans s4
    have hW4 := hW2.ev (Ev.same s24)
    have hP4 := hP3.ev (Ev.same s4)
    have e01 : rep (2 ^ 0 - 1) ts = [] := rfl
    have e02 : rep (2 ^ min 0 5) ts = ts := by simp [rep]
    refine ⟨⟨_, SqL.of hz4⟩, for_it (walk_list (xs := [.int 2, .int 4, .int 8, .int 16, .int 32, .int 64])) (fun i σ H' => Hold (∃ F P0 x4, σ = [some (.ref p), some (.ref l), some F, some P0, x4, none, none, none] ∧ WkAt ad H' F (rep (2 ^ i - 1) ts) ∧ WkAt ad H' P0 (rep (2 ^ min i 5) ts) ∧ L2.Same H4 H')) (Hold.mk ⟨_, _, _, rfl, by rw [e01]; exact hW4, by rw [e02]; exact hP4, L2.Same.refl _⟩) (fun i σ H1 _ hh => ?_) (fun i y σ H5 H' hi hh hy => ?_) (fun σ H5 hh => ?_)⟩
    · obtain ⟨_, _, _, _, _, _, s5⟩ := hh.out
      exact SqL.of (s5 _ _ hz4)
    · obtain ⟨F, P, x4, es, hF, hP, s5⟩ := hh.out
      clear hh
      subst es
      obtain ⟨rfl, hy⟩ := hy
      have hy2 := six_pow hy
      subst hy2
      have hi6 : i < 6 := hi
      obtain ⟨a, dx5, tp, fs, rfl, a1, a2, a3, a4, a5⟩ := id hF
      obtain ⟨b, dy5, tq, gs, rfl, b1, b2, b3, b4, b5⟩ := id hP
      obtain ⟨c1, c2⟩ := six_sum hi6
      have c3 : (rep (2 ^ i - 1) ts).length + (rep (2 ^ min i 5) ts).length ≤ 126 := by rw [rep_len, rep_len, e2]; omega
      walk_at "go"
      rename_i r H7 hr7 s7
      rw [rep_add, c1] at hr7
      have hP7 := hP.ev (Ev.same s7)
      have b1' := s7 _ _ b1
      rcases six_case hi6 with ⟨d1, d2, d3, d4, d5⟩ | ⟨d1, d2⟩
      · have dT : decide (((2 ^ (i + 1) : Nat) : Int) < 64) = true := decide_eq_true (by omega)
        rw [d3] at hP7
        have c4 : (rep (2 ^ i) ts).length + (rep (2 ^ i) ts).length ≤ 126 := by rw [rep_len, e2]; omega
        walk_at "go"
        rename_i r3 H8 hr8 s8
        rw [rep_add] at hr8
        exact Hold.mk ⟨_, _, _, rfl, hr7.ev (Ev.same s8), by rw [d4]; exact hr8, (s5.trans s7).trans s8⟩
      · have dT : decide (((2 ^ (i + 1) : Nat) : Int) < 64) = false := decide_eq_false (by omega)
        walk_at "go"
        subst d1
        exact Hold.mk ⟨_, _, _, rfl, hr7, hP7, s5.trans s7⟩
    · obtain ⟨F, PV, x4, es, hF, hP, s5⟩ := hh.out
      clear hh
      subst es
      have hF5 : WkAt ad H5 F (rep 63 ts) := hF
      clear hF hP
      have s25 := s24.trans s5
      have hR5 := hR2.same s25
      obtain ⟨rs, r1, r2⟩ := hR5.out
      have lrs := r2.1
      have l63 : (rep 63 ts).length = 126 := by rw [rep_len, e2]
      have o63 : ∀ t ∈ rep 63 ts, okR t := hF5.ok
      have rr := r2.rep 63
      have hp5 : Pot H5 p := (hp1.same s2).same s25
      have st5 : Stay p H H5 := st1.trans (UL.Same.stay (s2.trans s25) p)
      have hT5 : LamX.Tabs (tabsG PM) H5 := tabs_keep hT (UL.Stay.keep st5 hp)
      obtain ⟨fa, fdx, ftp, ffl, rfl, f1, f2, f3, f4, f5⟩ := id hF5
      have G5 : GF ad fa fdx ftp l ts rs H5 := ⟨hF5, f1, r1, r2⟩
      clear hz4 hW4 hP4 e01 e02 s24 s5 hR5 hR2 hW2 hP3 hl2 hR1 hF5 f1 f2 f3 r1 r2 rr
      dsimp only
      refine seq_cut (fun σ' H' => σ' = [some (.ref p), some (.ref l), some (.ref fa), some PV, x4, none, none, none] ∧ L2.Same H5 H') (fun σ6 H6 ⟨es, s6⟩ => ?_) (fun Nx rest => ?_)
      rotate_left
      · clear q
        have hF := G5.F
        have f1 := G5.f
        have r1 := G5.l
        walk_at "go"
        rename_i L6 H7 hL6 hR6 s7 z8 hz8
        have rr := ((G5.r.ev (Ev.same s7)).rep 63).ev (Ev.new (o := .lst (List.replicate (Int.toNat 63) rs).flatten) hz8)
        have hR8 : RwAt (upd H7 z8 (.lst (List.replicate (Int.toNat 63) rs).flatten)) z8 (rep 63 ts) := RwAt.of upd_same rr
        refine ⟨_, _, RwAt.dp (hR6.same (same_new hz8)), RwAt.dp hR8, rows_shaped _, rows_shaped _, ?_⟩
        rw [rows_eqv, decide_eq_true rfl]
        walk_at "go"
        exact rest _ _ ⟨rfl, s7.trans (same_new hz8)⟩
      subst es
      have G6 := G5.same s6
      refine seq_cut (fun σ' H' => σ' = [some (.ref p), some (.ref l), some (.ref fa), some PV, x4, none, none, none] ∧ L2.Same H6 H') (fun σ7 H7 ⟨es, s7⟩ => ?_) (fun Nx rest => ?_)
      rotate_left
      · clear q
        have hF := G6.F
        have f1 := G6.f
        have r1 := G6.l
        walk_at "go"
        rename_i x dx nx nd_ ne
        refine freeR nx nd_ ne fun H7 s7 hE => ⟨rfl, ?_⟩
        have f7 := s7 _ _ f1
        have hF7 := hF.ev (Ev.same s7)
        obtain ⟨xa, xd, ex, xf⟩ := id hE
        cases ex
        refine ⟨fa, fdx, _, .ref ad.c_Fill, rfl, f7, UL.CIsi.ty T.i_Fill xf, .inr (.inl ⟨_, rfl, T.no_Fill⟩), ?_⟩
        refine ⟨_, _, rep 63 ts, [], rfl, hF7, .inr (.inr ⟨rfl, hE⟩), .inl ⟨by rw [l63]; decide, fun r H8 hr8 s8 => ?_⟩⟩
        rw [List.append_nil] at hr8
        have r8 := (s7.trans s8) _ _ r1
        walk_at "go"
        rename_i L9 H9 hL9 hR9 s9 z8 hz8
        have sA := (s7.trans s8).trans s9
        have rr := ((G6.r.ev (Ev.same sA)).rep 63).ev (Ev.new (o := .lst (List.replicate (Int.toNat 63) rs).flatten) hz8)
        have hR8 : RwAt (upd H9 z8 (.lst (List.replicate (Int.toNat 63) rs).flatten)) z8 (rep 63 ts) := RwAt.of upd_same rr
        refine ⟨_, _, RwAt.dp (hR9.same (same_new hz8)), RwAt.dp hR8, rows_shaped _, rows_shaped _, ?_⟩
        rw [rows_eqv, decide_eq_true rfl]
        walk_at "go"
        exact rest _ _ ⟨rfl, sA.trans (same_new hz8)⟩
      subst es
      have G7 := G6.same s7
      have hp7 := (hp5.same s6).same s7
      refine seq_cut (fun σ' H' => σ' = [some (.ref p), some (.ref l), some (.ref fa), some PV, x4, none, none, none] ∧ Stay p H7 H' ∧ Pot H' p) (fun σ8 H8 ⟨es, s8, hp8⟩ => ?_) (fun Nx rest => ?_)
      rotate_left
      · clear q
        have hF := G7.F
        have f1 := G7.f
        have r1 := G7.l
        walk_at "go"
        rename_i z8 hz8
        have s8 := same_new (o := .lst (List.replicate (Int.toNat 63) rs).flatten) hz8
        have rr := (G7.r.rep 63).ev (Ev.new (o := .lst (List.replicate (Int.toNat 63) rs).flatten) hz8)
        have hR8 : RwAt (upd H7 z8 (.lst (List.replicate (Int.toNat 63) rs).flatten)) z8 (rep 63 ts) := RwAt.of upd_same rr
        have hF8 := hF.ev (Ev.same s8)
        have nzp : z8 ≠ p := by
          obtain ⟨x, y, ep, _⟩ := id hp7
          exact (ne_of_none ep hz8).symm
        have hp8 := hp7.same s8
        walk_at "go"
        rename_i H9 hp9 s9 x dx nx nd_ ne
        have v9 := Ev.stay s9 hp8 hp9
        have hF9 := hF8.ev v9
        have f9 := v9.ins (s8 _ _ f1)
        refine wkR (ws := []) (ts := []) nx nd_ ne FsAt.nil (by decide) (fun _ h => by cases h) fun H10 s10 hW10 => ⟨rfl, ?_⟩
        have f10 := s10 _ _ f9
        have hF10 := hF9.ev (Ev.same s10)
        obtain ⟨wa, wdx, wtp, wfs, ew, w1, w2, w3, w4, w5⟩ := id hW10
        cases ew
        refine ⟨fa, fdx, _, .ref ad.c_Work, rfl, f10, UL.CIsi.ty T.i_Work w1, .inl rfl, ?_⟩
        refine ⟨_, _, rep 63 ts, [], rfl, hF10, .inl hW10, .inl ⟨by rw [l63]; decide, fun r H11 hr11 s11 => ?_⟩⟩
        rw [List.append_nil] at hr11
        obtain ⟨ra, rdx, rtp, rfs, rfl, q1, q2, q3, q4, q5⟩ := id hr11
        walk_at "go"
        exact rest _ _ ⟨rfl, (UL.Same.stay s8 p).trans (s9.trans (UL.Same.stay (s10.trans s11) p)), hp9.same (s10.trans s11)⟩
      subst es
      have G8 := G7.stay s8 hp7 hp8 nlp
      have st8 : Stay p H H8 := (st5.trans (UL.Same.stay (s6.trans s7) p)).trans s8
      have hT8 : LamX.Tabs (tabsG PM) H8 := tabs_keep hT (UL.Stay.keep st8 hp)
      obtain ⟨hF, f1, _, _⟩ := G8
      refine seq_cut (fun σ' H' => ∃ L, σ' = [some (.ref p), some (.ref l), some (.ref fa), some PV, x4, some (.ref L), none, none] ∧ LS ad (X_l_great_right P w K mg base f (Value.ref cM) A outer s H E) 6 1 (SG p l fa PV) .many L (tabsG PM) p H8 H8 H') (fun σ9 H9 ⟨L, es, U1⟩ => ?_) (fun Nx rest => ?_)
      rotate_left
      · clear q
        walk_at "go"
        rename_i f2 H9 ex9 T9 hf9 kp9 L9 hL9
        refine rest _ _ ⟨L9, rfl, LS.one hp8 ex9 T9 kp9 hL9 fun σ ⟨y4, y5, y6, y7, eσ⟩ H2 E2 Q2 e2 en2 => ?_⟩
        clear rest kp9 T9 TB
        subst eσ
        have hF2 := hF.ev ((Ev.ext ex9).trans e2)
        have f2 := ((Ev.ext ex9).trans e2).ins f1
        walk_at "go"
        rename_i x dx nx nd_ ne
        refine flR (t := (false, 8)) nx nd_ ne ⟨by decide, by decide⟩ fun H3 s3 hE => ⟨rfl, ?_⟩
        have f3 := s3 _ _ f2
        obtain ⟨xa, xd, ex, xf⟩ := id hE
        cases ex
        refine ⟨fa, fdx, _, .ref ad.c_Fill, rfl, f3, UL.CIsi.ty T.i_Fill xf, .inr (.inl ⟨_, rfl, T.no_Fill⟩), ?_⟩
        exact ⟨_, _, rep 63 ts, [(false, 8)], rfl, hF2.ev (Ev.same s3), .inr (.inl ⟨_, rfl, ⟨by decide, by decide⟩, hE⟩), .inr ⟨by rw [l63]; decide, en2.same s3⟩⟩
      subst es
      refine seq_cut (fun σ' H' => σ' = [some (.ref p), some (.ref l), some (.ref fa), some PV, x4, some (.ref L), none, none] ∧ LS ad (X_l_great_right P w K mg base f (Value.ref cM) A outer s H E) 6 2 (SG p l fa PV) .many L (tabsG PM) p H8 H8 H') (fun σ10 H10 ⟨es, U2⟩ => ?_) (fun Nx rest => ?_)
      rotate_left
      · clear q
        obtain ⟨xs, hL, _, _⟩ := id U1.rows
        have T9 := U1.tb
        walk_at "go"
        rename_i f2 H10 ex10 T10 hf10 kp10
        have hL10 : H10 L = some (.lst xs) := ex10 _ _ hL (fun _ z => by cases z)
        walk_at "go"
        refine rest _ _ ⟨rfl, LS.add U1 ex10 T10 kp10 hL fun σ ⟨y4, y5, y6, y7, eσ⟩ H2 E2 Q2 e2 en2 => ?_⟩
        clear rest kp10 T10 TB
        subst eσ
        have v2 := (U1.ev.trans (Ev.ext ex10)).trans e2
        have hF2 := hF.ev v2
        have f2 := v2.ins f1
        refine ⟨.ref fa, rfl, .ref fa, rfl, fa, fdx, _, .ref ad.c_Work, rfl, f2, UL.CIsi.ty T.i_Work f2, .inl rfl, ?_⟩
        exact ⟨_, _, rep 63 ts, rep 63 ts, rfl, hF2, .inl hF2, .inr ⟨by rw [l63]; decide, en2⟩⟩
      subst es
      refine seq_cut (fun σ' H' => σ' = [some (.ref p), some (.ref l), some (.ref fa), some PV, x4, some (.ref L), none, none] ∧ LS ad (X_l_great_right P w K mg base f (Value.ref cM) A outer s H E) 6 3 (SG p l fa PV) .many L (tabsG PM) p H8 H8 H') (fun σ11 H11 ⟨es, U3⟩ => ?_) (fun Nx rest => ?_)
      rotate_left
      · clear q
        obtain ⟨xs, hL, _, _⟩ := id U2.rows
        have T9 := U2.tb
        walk_at "go"
        rename_i f2 H10 ex10 T10 hf10 kp10
        have hL10 : H10 L = some (.lst xs) := ex10 _ _ hL (fun _ z => by cases z)
        walk_at "go"
        refine rest _ _ ⟨rfl, LS.add U2 ex10 T10 kp10 hL fun σ ⟨y4, y5, y6, y7, eσ⟩ H2 E2 Q2 e2 en2 => ?_⟩
        clear rest kp10 T10 TB
        subst eσ
        have v2 := (U2.ev.trans (Ev.ext ex10)).trans e2
        walk_at "go"
        rename_i x dx nx nd_ ne
        refine flR (t := (true, 9)) nx nd_ ne ⟨by decide, by decide⟩ fun H3 s3 hE => ⟨rfl, ?_⟩
        walk_at "go"
        rename_i y dy ny ndy ney
        refine wkR (ws := [.ref x]) (ts := [(true, 9)]) ny ndy ney (FsAt.one hE) (by decide) (fun t ht => by rw [List.mem_singleton.mp ht]; exact ⟨by decide, by decide⟩) fun H4 s4 hW => ⟨rfl, ?_⟩
        have hF4 := (hF.ev v2).ev (Ev.same (s3.trans s4))
        have f4 := (s3.trans s4) _ _ (v2.ins f1)
        obtain ⟨wa, wdx, wtp, wfs, ew, w1, w2, w3, w4, w5⟩ := id hW
        cases ew
        refine ⟨.ref fa, rfl, y, wdx, _, .ref ad.c_Work, rfl, w1, UL.CIsi.ty T.i_Work f4, .inl rfl, ?_⟩
        exact ⟨_, _, [(true, 9)], rep 63 ts, rfl, hW, .inl hF4, .inr ⟨by rw [l63]; decide, en2.same (s3.trans s4)⟩⟩
      subst es
      refine seq_cut (fun σ' H' => σ' = [some (.ref p), some (.ref l), some (.ref fa), some PV, x4, some (.ref L), none, none] ∧ LS ad (X_l_great_right P w K mg base f (Value.ref cM) A outer s H E) 6 4 (SG p l fa PV) .many L (tabsG PM) p H8 H8 H') (fun σ12 H12 ⟨es, U4⟩ => ?_) (fun Nx rest => ?_)
      rotate_left
      · clear q
        obtain ⟨xs, hL, _, _⟩ := id U3.rows
        have T9 := U3.tb
        walk_at "go"
        rename_i f2 H10 ex10 T10 hf10 kp10
        have hL10 : H10 L = some (.lst xs) := ex10 _ _ hL (fun _ z => by cases z)
        walk_at "go"
        refine rest _ _ ⟨rfl, LS.add U3 ex10 T10 kp10 hL fun σ ⟨y4, y5, y6, y7, eσ⟩ H2 E2 Q2 e2 en2 => ?_⟩
        clear rest kp10 T10 TB
        subst eσ
        walk_at "go"
        rename_i x dx nx nd_ ne
        refine flR (t := (true, 9)) nx nd_ ne ⟨by decide, by decide⟩ fun H3 s3 hE => ⟨rfl, ?_⟩
        walk_at "go"
        rename_i y dy ny ndy ney
        refine flR (t := (false, 8)) ny ndy ney ⟨by decide, by decide⟩ fun H4 s4 hE2 => ⟨rfl, ?_⟩
        exact ⟨_, _, .many, rfl, ⟨_, _, hE.ev (Ev.same s4)⟩, .inr ⟨⟨_, _, hE2⟩, rfl⟩, en2.same (s3.trans s4)⟩
      subst es
      have v12 := U4.ev
      have hp12 := U4.pot
      refine seq_cut (fun σ' H' => ∃ x6, σ' = [some (.ref p), some (.ref l), some (.ref fa), some PV, x4, some (.ref L), x6, none] ∧ L2.Same H12 H') (fun σ13 H13 ⟨x6, es, s13⟩ => ?_) (fun Nx rest => ?_)
      rotate_left
      · clear q
        obtain ⟨xs, hL, hn, hx⟩ := id U4.rows
        walk_at "go"
        refine ⟨⟨xs, SqL.of hL⟩, fun D hD => ?_⟩
        refine lc_made (walk_list (xs := xs)) hD (fun i v H' => ∃ a, a ≠ D ∧ v = .ref a ∧ H' a = some (.lst Kt.many.row)) (fun i v H' H2 ⟨a, nd, ea, ha⟩ st => ⟨a, nd, ea, st _ _ nd ha⟩) (by omega) (fun H' s => SqL.of (s _ _ hL)) (fun i x H2 H' hi s2 hd2 hy Z hZ => ?_) (fun H2 ys hl2 hys s2 hD2 => ?_)
        · obtain ⟨rfl, hxi⟩ := hy
          obtain ⟨f9, t9, rfl, kp9, g9⟩ := (hx x (List.mem_of_getElem? hxi)).ev (Ev.same s2)
          walk_at "go"
          obtain ⟨xd, hxd⟩ := hd2
          exact ⟨.many, fun H2 E' Q' sx en => g9 _ ⟨_, _, _, _, rfl⟩ H2 E' Q' (Ev.same sx) en, fun l9 H9 s9 hn9 hl9 => hZ _ _ ⟨l9, (ne_of_none hxd hn9).symm, rfl, hl9⟩ s9⟩
        · have hF2 := (hF.ev v12).ev (Ev.same s2)
          walk_at "go"
          rename_i z1 hz1 z2 hz2 z3 hz3
          have sz : L2.Same H2 (upd (upd (upd H2 z1 (.lst [.str (Str.ofString "fills"), .int 126, .bl true])) z2 (.lst [.ref z1])) z3 (.lst (List.replicate (Int.toNat 4) [V.ref z1]).flatten)) := by walk_at "same"
          have h1 : (upd (upd (upd H2 z1 (.lst [.str (Str.ofString "fills"), .int 126, .bl true])) z2 (.lst [.ref z1])) z3 (.lst (List.replicate (Int.toNat 4) [V.ref z1]).flatten)) z1 = some (.lst Kt.many.row) := by walk_at "look"
          have h3 : (upd (upd (upd H2 z1 (.lst [.str (Str.ofString "fills"), .int 126, .bl true])) z2 (.lst [.ref z1])) z3 (.lst (List.replicate (Int.toNat 4) [V.ref z1]).flatten)) z3 = some (.lst (List.replicate (Int.toNat 4) [V.ref z1]).flatten) := upd_same
          have fz := sz _ _ ((s2 _ _ (v12.ins f1)))
          have hFz := hF2.ev (Ev.same sz)
          generalize upd (upd (upd H2 z1 (.lst [.str (Str.ofString "fills"), .int 126, .bl true])) z2 (.lst [.ref z1])) z3 (.lst (List.replicate (Int.toNat 4) [V.ref z1]).flatten) = HZ at sz h1 h3 fz hFz ⊢
          have dR : ∀ a, HZ a = some (.lst Kt.many.row) → Dp K HZ (.ref a) RD := fun a h => .lst (SqL.of h) (.cons (.str _) (.cons (.int _) (.cons (.bl _) .nil)))
          have dA : Dp K HZ (.ref D) (.list [RD, RD, RD, RD]) := .lst (SqL.of (sz _ _ hD2)) (dpAll_at (by rw [hl2, hn]; rfl) fun j v d e1 e2 => by
            obtain ⟨a, _, rfl, ha⟩ := hys j v e1
            have ed : d = RD := by
              match j, e2 with
              | 0, e2 => cases e2; rfl
              | 1, e2 => cases e2; rfl
              | 2, e2 => cases e2; rfl
              | 3, e2 => cases e2; rfl
              | n + 4, e2 => cases e2
            rw [ed]
            exact dR a (sz _ _ ha))
          have dB : Dp K HZ (.ref z3) (.list [RD, RD, RD, RD]) := .lst (SqL.of h3) (.cons (dR _ h1) (.cons (dR _ h1) (.cons (dR _ h1) (.cons (dR _ h1) .nil))))
          refine ⟨_, _, dA, dB, by decide +kernel, by decide +kernel, ?_⟩
          rw [show PyData.eqv (.list [RD, RD, RD, RD]) (.list [RD, RD, RD, RD]) = true by decide +kernel]
          walk_at "go"
          exact rest _ _ ⟨_, rfl, s2.trans sz⟩
      subst es
      have hp13 := hp12.same s13
      have f13 := s13 _ _ (v12.ins f1)
      have hF13 := (hF.ev v12).ev (Ev.same s13)
      have kC : KitC K ad.c_Fill := T.k_Fill
      refine seq_cut (fun σ' H' => ∃ wv, σ' = [some (.ref p), some (.ref l), some (.ref fa), some PV, x4, some (.ref L), x6, some wv] ∧ BadF K ad H' wv ∧ Stay p H13 H' ∧ Pot H' p) (fun σ14 H14 ⟨wv, es, hB, s14, hp14⟩ => ?_) (fun Nx rest => ?_)
      rotate_left
      · clear q
        walk_at "go"
        rename_i x dx nx nd_ ne
        refine freeR nx nd_ ne fun H7 s7 hE => ⟨rfl, ?_⟩
        have hp7 := hp13.same s7
        have f7 := s7 _ _ f13
        walk_at "go"
        rename_i z hz i v H8 hi hp8 s8
        have v8 := (Ev.new hz).trans (Ev.stay s8 (hp7.same (same_new hz)) hp8)
        have hB : BadF K ad H8 v := by
          match i, hi with
          | 0, hi => cases hi; exact .inl (noti_vd kC .non)
          | 1, hi => cases hi; exact .inr ⟨_, hE.ev v8⟩
          | 2, hi => cases hi; exact .inl (noti_in T.i_Work T.ks_Work_Fill (v8.ins f7))
          | 3, hi => cases hi; exact .inl (noti_vd kC (.str _))
          | n + 4, hi => cases hi
        exact rest _ _ ⟨_, rfl, hB, (UL.Same.stay (s7.trans (same_new hz)) p).trans s8, hp8⟩
      subst es
      have hT14 : LamX.Tabs (tabsG PM) H14 := tabs_keep (tabs_keep U4.tb (UL.Same.keep s13)) (UL.Stay.keep s14 hp13)
      walk_at "go"
      rename_i f9 H15 ex15 T15 hf15 kp15
      have hB15 := hB.ev (Ev.ext ex15)
      refine ⟨.work 126, fun H2 E' Q' sx en => ?_, fun l9 H16 s16 hn16 hl16 => ?_⟩
      · dsimp only
        clear q kp15 TB
        walk_at "go"
        rename_i x dx nx nd_ ne
        refine flR (t := (true, 9)) nx nd_ ne ⟨by decide, by decide⟩ fun H3 s3 hE => ⟨rfl, ?_⟩
        exact ⟨wv, rfl, _, _, .work 126, rfl, ⟨_, _, hE⟩, .inl ⟨hB15.ev (Ev.same (sx.trans s3)), rfl⟩, en.same s3⟩
      · walk_at "go"
        rename_i z hz
        have dA : Dp K (upd H16 z (.lst [.str (Str.ofString "work"), .int 126, .bl true])) (.ref l9) (.list [.str "work", .int 126, .bool true]) := .lst (SqL.of (same_new hz _ _ hl16)) (.cons (.str _) (.cons (.int _) (.cons (.bl _) .nil)))
        have dB : Dp K (upd H16 z (.lst [.str (Str.ofString "work"), .int 126, .bl true])) (.ref z) (.list [.str "work", .int 126, .bool true]) := .lst (SqL.of upd_same) (.cons (.str _) (.cons (.int _) (.cons (.bl _) .nil)))
        refine ⟨_, _, dA, dB, by decide +kernel, by decide +kernel, ?_⟩
        rw [show PyData.eqv (.list [.str "work", .int 126, .bool true]) (.list [.str "work", .int 126, .bool true]) = true by decide +kernel]
        have sE := s16.trans (same_new (o := .lst [.str (Str.ofString "work"), .int 126, .bl true]) hz)
        exact q _ (tabs_keep T15 (UL.Same.keep sE)) (((((StT.stay st8).trans U4.gf).trans (StT.stay (UL.Same.stay s13 p))).trans (StT.stay s14)).trans (fun b o _ e t => sE _ _ (ex15 b o e t)))
end
end K14
set_option Elab.async false
set_option linter.all false
set_option maxRecDepth 100000
set_option maxHeartbeats 4000000


namespace K14
open PySem L2 UL ClX
local macro_rules | `(tactic| walk_at "txt") => `(tactic| first
  | ((with_reducible show PySem.W.kitOne _ (.ref _) (.ref _) = _); first | exact Txt.ks_Work_Fill (by assumption) | exact Txt.ks_Fill_Work (by assumption))
  | ((with_reducible show PySem.W.notFirst _ _ (.ref _) = _); first | exact Txt.nf_Work_Fill (by assumption) | exact Txt.nf_Fill_Work (by assumption))
  | ((with_reducible show L2.Cls _ _); first | exact UL.CIsi.cl (Txt.i_Fill (by assumption)) | exact UL.CIsi.cl (Txt.i_Work (by assumption)))
  | ((with_reducible show UL.CIsi _ _); first | exact Txt.i_Fill (by assumption) | exact Txt.i_Work (by assumption))
  | ((with_reducible show L2.NoAttr _ _ _); first | exact Txt.n_Fill_word (by assumption) | exact Txt.n_Fill_extent (by assumption) | exact Txt.n_Work_fills (by assumption))
  | ((with_reducible show L2.TyX _ _ _ _); first | exact UL.CIsi.ty (Txt.i_Fill (by assumption)) (by walk_at "look") | exact UL.CIsi.ty (Txt.i_Work (by assumption)) (by walk_at "look"))
  | ((with_reducible show PySem.W.kitOne _ (.type _) (.ref _) = _); first | exact ((Txt.k_Fill (by assumption)) _ (by simp)).1 | exact ((Txt.k_Work (by assumption)) _ (by simp)).1)
  | ((with_reducible show _ = PySem.Value.ref _ ∨ _); first | exact .inl rfl | exact .inr ⟨_, rfl, Txt.no_Fill (by assumption)⟩)
  | fail)
open K14M (RT okR plS plainR lastW rowB loneR)
section
variable {P : Program} {w : World} {K : PySem.W.Frag} {mg : Str → Option Value} {base : Heap} {ad : Ad}
def spRight (ad : Ad) : Sp := fun vs H Q _ => ∃ p : Addr, vs = [.ref p] ∧ Pot H p ∧ ∀ H' : Hp, Pot H' p → Stay p H H' → Q (.bl true) H'
abbrev st_l_right : Stmt := top 44
theorem sc_l_right : FnScope ["_law_pot_here", "_law_rows_now", "_law_made_here", "_law_turn"] ["_law_pot_here"] (defScope st_l_right) := ⟨rfl, rfl, rfl, by decide +kernel, rfl, by decide +kernel, by decide +kernel⟩
theorem ok_l_right {f : Addr} {fd : FuncData} (F : Fun K "_law_right" "_law_right" st_l_right f fd) (T : Txt K mg ad) (c_l_rows : Cal P w K mg base 3 "_law_rows" (spRows)) (c_l_draw : Cal P w K mg base 1 "_law_draw" spDraw) (c_l_made : Cal P w K mg base 7 "_law_made" (spMade ad)) (c_l_plain_right : CalG P w K mg base 8 "_law_plain_right" (spPlainRight ad)) (c_l_pair_right : CalG P w K mg base 9 "_law_pair_right" (spPairRight ad)) (c_l_bent : Cal P w K mg base 2 "_law_bent" (spLLike)) (c_l_like : Cal P w K mg base 3 "_law_like" (spLLike)) :
    FnG P w K mg base 10 f fd ["_law_pot_here"] (spRight ad) := by
  refine FnG.mk' F sc_l_right (fun vs H Q E h => ?_) (fun cdv A outer s H vs Q E hgd hr h => ?_)
  · obtain (⟨p, rfl, hp, q⟩) := h
    rfl
  · obtain (⟨p, rfl, hp, q⟩) := h
    refine ⟨_, pss_cons (ps_set (i := 1) sc_l_right.nd rfl (.inl rfl) (pe_c c_l_rows hr (by decide) (by rfl) (pa_cons (pv 0) (pa_cons (pe_c c_l_draw hr (by decide) (by rfl) (pa_cons (pv 0) (pa_cons pe_int pa_nil))) pa_nil))))
      (pss_cons (ps_set (i := 2) sc_l_right.nd rfl (.inl rfl) (pe_c c_l_made hr (by decide) (by rfl) (pa_cons (pv 1) pa_nil)))
      (pss_cons (ps_if (pt_not (pt_val (pe_cG hgd c_l_plain_right hr (by decide) (by rfl) (pa_cons (pv 0) (pa_cons (pv 2) (pa_cons (pv 1) pa_nil)))))) (pss_one (ps_ret pe_bl)) pss_nil)
      (pss_cons (ps_for PassesOwn.never rfl (pi_range1 (by rfl) T.bi.range (pa_cons pe_int pa_nil)) (pg_name (i := 3) sc_l_right.nd rfl (Or.inl rfl))
        (pss_cons (ps_if (pt_not (pt_val (pe_cG hgd c_l_pair_right hr (by decide) (by rfl) (pa_cons (pv 0) (pa_cons (pv 2) (pa_cons (pv 1) (pa_cons (pe_c c_l_bent hr (by decide) (by rfl) (pa_cons (pv 0) (pa_cons (pv 1) pa_nil))) pa_nil))))))) (pss_one (ps_ret pe_bl)) pss_nil)
          (pss_one (ps_if (pt_not (pt_val (pe_cG hgd c_l_pair_right hr (by decide) (by rfl) (pa_cons (pv 0) (pa_cons (pv 2) (pa_cons (pv 1) (pa_cons (pe_c c_l_like hr (by decide) (by rfl) (pa_cons (pv 0) (pa_cons (pv 1) pa_nil))) pa_nil))))))) (pss_one (ps_ret pe_bl)) pss_nil))))
      (pss_one (ps_ret (pe_cG hgd c_l_pair_right hr (by decide) (by rfl) (pa_cons (pv 0) (pa_cons (pv 2) (pa_cons (pv 1) (pa_cons (pe_c c_l_rows hr (by decide) (by rfl) (pa_cons (pv 0) (pa_cons (pe_c c_l_draw hr (by decide) (by rfl) (pa_cons (pv 0) (pa_cons pe_int pa_nil))) pa_nil))) pa_nil)))))))))), ?_⟩
    walk_at "go"
    rename_i d H1 d0 d1 hp1 st1
    obtain ⟨n, rfl⟩ : ∃ n : Nat, d = (n : Nat) := ⟨d.toNat, by omega⟩
    have hn : n ≤ 20 := by omega
    walk_at "go"
    rename_i l ts H2 hl0 hR2 e2 ho hp2 st2 v H3 hW3 s3
    have nlp : l ≠ p := by
      obtain ⟨x, y, ep, _⟩ := id hp1
      exact (ne_of_none ep hl0).symm
    have l20 : ts.length ≤ 20 := by omega
    have l126 : ts.length ≤ 126 := by omega
    have hp3 := hp2.same s3
    have hR3 := hR2.same s3
    walk_at "go"
    rename_i H4 hp4 s4
    have st4 : Stay p H H4 := ((st1.trans st2).trans (UL.Same.stay s3 p)).trans s4
    have hR4 := hR3.stay s4 hp3 nlp
    have hW4 := hW3.ev (Ev.stay s4 hp3 hp4)
    clear hR2 hR3 hW3
    walk_at "go"
    refine for_it (walk_range (lo := 0) (n := 2)) (fun i σ H' => Hold (∃ x, σ = [some (.ref p), some (.ref l), some v, x] ∧ Pot H' p ∧ Stay p H4 H')) (Hold.mk ⟨_, rfl, hp4, Stay.refl _ _⟩) (fun _ _ _ _ _ => trivial) (fun i y σ H5 H' hi hh hy => ?_) (fun σ H5 hh => ?_)
    · obtain ⟨x, es, hp5, s5⟩ := hh.out
      clear hh
      subst es
      obtain ⟨rfl, rfl⟩ := hy
      have hR5 := hR4.stay s5 hp4 nlp
      have hW5 := hW4.ev (Ev.stay s5 hp4 hp5)
      walk_at "go"
      rename_i L6 us6 H6 hL6 hR6 l6 o6 hp6 s6
      have n6 : L6 ≠ p := by
        obtain ⟨x, y, ep, _⟩ := id hp5
        exact (ne_of_none ep hL6).symm
      have m6 : us6.length ≤ 126 := by omega
      have hR7 := hR5.stay s6 hp5 nlp
      have hW7 := hW5.ev (Ev.stay s6 hp5 hp6)
      walk_at "go"
      rename_i H8 hp8 s8
      have hR8 := hR7.stay s8 hp6 nlp
      have hW8 := hW7.ev (Ev.stay s8 hp6 hp8)
      walk_at "go"
      rename_i L9 us9 H9 hL9 hR9 l9 o9 hp9 s9
      have n9 : L9 ≠ p := by
        obtain ⟨x, y, ep, _⟩ := id hp8
        exact (ne_of_none ep hL9).symm
      have m9 : us9.length ≤ 126 := by omega
      have hR10 := hR8.stay s9 hp8 nlp
      have hW10 := hW8.ev (Ev.stay s9 hp8 hp9)
      walk_at "go"
      rename_i H11 hp11 s11
      exact Hold.mk ⟨_, rfl, hp11, (((s5.trans s6).trans s8).trans s9).trans s11⟩
    · obtain ⟨x, es, hp5, s5⟩ := hh.out
      clear hh
      subst es
      have hR5 := hR4.stay s5 hp4 nlp
      have hW5 := hW4.ev (Ev.stay s5 hp4 hp5)
      walk_at "go"
      rename_i d2 H6 e0 e1 hp6 s6
      obtain ⟨m, rfl⟩ : ∃ m : Nat, d2 = (m : Nat) := ⟨d2.toNat, by omega⟩
      have hm : m ≤ 20 := by omega
      walk_at "go"
      rename_i L7 us7 H7 hL7 hR7 l7 o7 hp7 s7
      have n7 : L7 ≠ p := by
        obtain ⟨x, y, ep, _⟩ := id hp6
        exact (ne_of_none ep hL7).symm
      have m7 : us7.length ≤ 126 := by omega
      have hR8 := hR5.stay (s6.trans s7) hp5 nlp
      have hW8 := hW5.ev (Ev.stay (s6.trans s7) hp5 hp7)
      walk_at "go"
      rename_i H9 hp9 s9
      exact q _ hp9 ((((st4.trans s5).trans s6).trans s7).trans s9)
end
end K14
set_option Elab.async false
set_option linter.all false
set_option maxRecDepth 100000
set_option maxHeartbeats 4000000


namespace K14
open PySem L2 UL ClX
local macro_rules | `(tactic| walk_at "txt") => `(tactic| first
  | ((with_reducible show PySem.W.kitOne _ (.ref _) (.ref _) = _); first | exact Txt.ks_Work_Fill (by assumption) | exact Txt.ks_Fill_Work (by assumption))
  | ((with_reducible show PySem.W.notFirst _ _ (.ref _) = _); first | exact Txt.nf_Work_Fill (by assumption) | exact Txt.nf_Fill_Work (by assumption))
  | ((with_reducible show L2.Cls _ _); first | exact UL.CIsi.cl (Txt.i_Fill (by assumption)) | exact UL.CIsi.cl (Txt.i_Work (by assumption)))
  | ((with_reducible show UL.CIsi _ _); first | exact Txt.i_Fill (by assumption) | exact Txt.i_Work (by assumption))
  | ((with_reducible show L2.NoAttr _ _ _); first | exact Txt.n_Fill_word (by assumption) | exact Txt.n_Fill_extent (by assumption) | exact Txt.n_Work_fills (by assumption))
  | ((with_reducible show L2.TyX _ _ _ _); first | exact UL.CIsi.ty (Txt.i_Fill (by assumption)) (by walk_at "look") | exact UL.CIsi.ty (Txt.i_Work (by assumption)) (by walk_at "look"))
  | ((with_reducible show PySem.W.kitOne _ (.type _) (.ref _) = _); first | exact ((Txt.k_Fill (by assumption)) _ (by simp)).1 | exact ((Txt.k_Work (by assumption)) _ (by simp)).1)
  | ((with_reducible show _ = PySem.Value.ref _ ∨ _); first | exact .inl rfl | exact .inr ⟨_, rfl, Txt.no_Fill (by assumption)⟩)
  | fail)
open K14M (RT okR plS plainR lastW rowB loneR)
theorem three3 {z : Int} : (if (if 3 < z then 3 else z) > 1 then (if 3 < z then 3 else z) else 1) ≤ 3 ∧ 1 ≤ (if (if 3 < z then 3 else z) > 1 then (if 3 < z then 3 else z) else 1) := by
  by_cases c : 3 < z
  · rw [if_pos c, if_pos (by decide)]
    decide
  · rw [if_neg c]
    by_cases d : z > 1
    · rw [if_pos d]
      omega
    · rw [if_neg d]
      decide
theorem sq_past2 {K : PySem.W.Frag} {a p : Addr} {H H1 H2 : Hp} {xs : List V} (h : SqL K H a xs) (hp : H p = none) (s : L2.Same H H1) (st : StT p H1 H2) : SqL K H2 a xs := by
  rcases h with (h | ⟨o, h⟩) | h
  · exact .inl (.inl (st _ _ (ne_of_none h hp) (s _ _ h) (by simp)))
  · exact .inl (.inr ⟨o, st _ _ (ne_of_none h hp) (s _ _ h) (by simp)⟩)
  · exact .inr h
section
variable {P : Program} {w : World} {K : PySem.W.Frag} {mg : Str → Option Value} {base : Heap} {ad : Ad}
variable {PM : Addr}
/-- law(script) -/
def spLaw (K : PySem.W.Frag) (PM : Addr) : Sp := fun vs H Q _ => ∃ (a : Addr) (ns : List Int), vs = [.ref a] ∧ SqL K H a (ns.map V.int) ∧ ns.length ≤ 63 ∧ LamX.Tabs (tabsG PM) H ∧ ∀ H' : Hp, Q (.bl true) H'
abbrev st_law : Stmt := top 45
theorem sc_law : FnScope ["_law_script", "_law_k", "_law_pot_here"] ["_law_script"] (defScope st_law) := ⟨rfl, rfl, rfl, by decide +kernel, rfl, by decide +kernel, by decide +kernel⟩
theorem ok_law {f : Addr} {fd : FuncData} (F : Fun K "law" "law" st_law f fd) (T : Txt K mg ad) (c_l_pot : Cal P w K mg base 1 "_law_pot" (spPot K)) (c_l_right : CalG P w K mg base 10 "_law_right" (spRight ad)) (c_l_great_right : CalG P w K mg base 9 "_law_great_right" (spGreat PM)) :
    FnG P w K mg base 11 f fd ["_law_script"] (spLaw K PM) := by
  refine FnG.mk' F sc_law (fun vs H Q E h => ?_) (fun cdv A outer s H vs Q E hgd hr h => ?_)
  · obtain (⟨a, ns, rfl, hS, hn, hT, q⟩) := h
    rfl
  · obtain (⟨a, ns, rfl, hS, hn, hT, q⟩) := h
    refine ⟨_, pss_cons (ps_for PassesOwn.never rfl (pi_range1 (by rfl) T.bi.range (pa_cons (pe_callB (call_max2 rfl) (by rfl) T.bi.max (by decide +kernel) (pa_cons pe_int (pa_cons (pe_callB (call_min2 rfl) (by rfl) T.bi.min (by decide +kernel) (pa_cons (pe_callB call_len_seq (by rfl) T.bi.len (by decide +kernel) (pa_cons (pv 0) pa_nil)) (pa_cons pe_int pa_nil))) pa_nil))) pa_nil)) (pg_name (i := 1) sc_law.nd rfl (Or.inl rfl))
        (pss_cons (ps_set (i := 2) sc_law.nd rfl (.inl rfl) (pe_c c_l_pot hr (by decide) (by rfl) (pa_cons (pv 0) (pa_cons (pv 1) pa_nil))))
          (pss_one (ps_if (PW.pt (pw_or (pt_not (pt_val (pe_cG hgd c_l_right hr (by decide) (by rfl) (pa_cons (pv 2) pa_nil)))) (pw_or1 (PW.pt (pw_and (pt_cmpR op_eq (pv 1) pe_int (nomark _)) (pw_and1 (pt_not (pt_val (pe_cG hgd c_l_great_right hr (by decide) (by rfl) (pa_cons (pv 2) pa_nil)))))))))) (pss_one (ps_ret pe_bl)) pss_nil))))
      (pss_one (ps_ret pe_bl)), ?_⟩
    walk_at "go"
    obtain ⟨m3, m1⟩ := three3 (z := ((ns.map V.int).length : Int))
    generalize (if (if 3 < ((ns.map V.int).length : Int) then 3 else ((ns.map V.int).length : Int)) > 1 then (if 3 < ((ns.map V.int).length : Int) then 3 else ((ns.map V.int).length : Int)) else 1) = m at m3 m1
    refine for_it (walk_range (lo := 0) (n := m.toNat)) (fun i σ H' => Hold (∃ x y, σ = [some (.ref a), x, y] ∧ SqL K H' a (ns.map V.int) ∧ LamX.Tabs (tabsG PM) H')) (Hold.mk ⟨_, _, rfl, hS, hT⟩) (fun _ _ _ _ _ => trivial) (fun i y σ H1 H' hi hh hy => ?_) (fun σ H1 hh => ?_)
    · obtain ⟨x, y, es, s1, t1⟩ := hh.out
      clear hh
      subst es
      obtain ⟨rfl, rfl⟩ := hy
      have i0 : 0 ≤ (0 : Int) + i := by omega
      have i1 : (0 : Int) + i ≤ 100 := by omega
      walk_at "go"
      rename_i p H1 np hp1 s2 H2 hp2 st2
      have T2 := tabs_keep (tabs_keep t1 (UL.Same.keep s2)) (UL.Stay.keep st2 hp1)
      have q2 := sq_past2 s1 np s2 (StT.stay st2)
      dsimp only
      cases decide (V.int (0 + (i : Int)) = V.int 0) with
      | true =>
        rw [if_pos rfl]
        walk_at "go"
        rename_i H3 T3 st3
        exact Hold.mk ⟨_, _, rfl, sq_past2 s1 np s2 ((StT.stay st2).trans st3), T3⟩
      | false =>
        rw [if_neg Bool.false_ne_true]
        walk_at "go"
        exact Hold.mk ⟨_, _, rfl, q2, T2⟩
    · obtain ⟨x, y, es, s1, t1⟩ := hh.out
      clear hh
      subst es
      walk_at "go"
      exact q _
end
end K14
set_option Elab.async false
set_option linter.all false
set_option maxRecDepth 100000
set_option maxHeartbeats 4000000
namespace K14
open PySem PySem.Spec PyProof.Rows L2 UL ClX
theorem fnR_mono {P : Program} {w : World} {K : PySem.W.Frag} {mg : Str → Option Value} {base : Heap} {CX : CXT} {j k : Nat} {f : Addr} {sp : Sp} (F : FnR P w K mg base CX j f sp) (h : j ≤ k) : FnR P w K mg base CX k f sp := fun A outer s H us vs Q E hr => F A outer s H us vs Q E (hr.mono h)
theorem ks_of {K : PySem.W.Frag} {C D : Addr} {b : Bool} (h2 : PySem.W.isClsIn K D = true) (h3 : PySem.W.typeIn K (.ref D) = some (.type "type")) (h4 : PySem.W.subIn K (.ref C) (.ref D) = some b) : PySem.W.kitCls K (.ref C) (.ref D) = some b := by
  unfold PySem.W.kitCls
  dsimp only
  rw [if_pos (by rw [h3]; simp [show (PySem.W.clsIn K D).isSome = true from h2])]
  exact h4
theorem kb_of {K : PySem.W.Frag} {C : Addr} {T : String} {b : Bool} (h : PySem.W.kitMeta T = true) (h4 : PySem.W.subIn K (.ref C) (.type T) = some b) : PySem.W.kitCls K (.ref C) (.type T) = some b := by
  unfold PySem.W.kitCls
  dsimp only
  rw [if_pos h]
  exact h4
theorem fok_mono {P : Program} {w : World} {K : PySem.W.Frag} {mg : Str → Option Value} {base : Heap} {CX : CXT} {j k : Nat} {f : Addr} {fd : FuncData} {ps : List Str} {sp : Sp} (F : FnOk P w K mg base CX j f fd ps sp) (h : j ≤ k) : FnOk P w K mg base CX k f fd ps sp := { F with run := fun A outer s H args us vs Q E hr => F.run A outer s H args us vs Q E (hr.mono h) }
theorem dr_sub : PySem.dunderR "sub" = ("__rsub__" : Str) := by decide +kernel
theorem nf_of {K : PySem.W.Frag} {C D : Addr} (h : PySem.W.subIn K (.ref C) (.ref D) = some false) : PySem.W.notFirst K D (.ref C) = true := by
  unfold PySem.W.notFirst
  rw [h]
  simp
theorem ki_of {K : PySem.W.Frag} {C : Addr} {T : String} (h : PySem.W.subIn K (.ref C) (.type T) = some false) (m : PySem.W.kitMeta T = true := by decide +kernel) : PySem.W.kitOne K (.ref C) (.type T) = some false := by
  unfold PySem.W.kitOne
  rw [if_neg (by intro z; cases (show false = true from z))]
  exact kb_of m h
theorem ko_of {K : PySem.W.Frag} {C D : Addr} {b : Bool} (h2 : PySem.W.isClsIn K D = true) (h3 : PySem.W.typeIn K (.ref D) = some (.type "type")) (h4 : PySem.W.subIn K (.ref C) (.ref D) = some b) (e : (Value.ref C == Value.ref D) = false) : PySem.W.kitOne K (.ref C) (.ref D) = some b := by
  unfold PySem.W.kitOne
  rw [if_neg (by rw [e]; exact Bool.false_ne_true)]
  exact ks_of h2 h3 h4
theorem dr_mul : PySem.dunderR "mul" = ("__rmul__" : Str) := by decide +kernel
theorem xm_of {K : PySem.W.Frag} {C D : Addr} {b : Bool} (h1 : PySem.W.subIn K (.ref D) (.type "BaseException") = some true) (h2 : PySem.W.isClsIn K D = true) (h3 : PySem.W.typeIn K (.ref D) = some (.type "type")) (h4 : PySem.W.subIn K (.ref C) (.ref D) = some b) : PySem.W.exmOne K (.ref C) (.ref D) = some b := by
  unfold PySem.W.exmOne PySem.W.kitCls
  rw [if_pos (by rw [h1]; rfl)]
  dsimp only
  rw [if_pos (by rw [h3]; simp [show (PySem.W.clsIn K D).isSome = true from h2])]
  exact h4
theorem core {l : PySem.W.OpenLaw} {w : World} {K : PySem.W.Frag} {h : Heap} {mg : Str → Option Value} {PM : Addr} {ad : Ad} {f_law : Addr} {xN_CallError xN_LimitError xN_InvalidWork xN_TooMany f_is_between f_is_word_of f_Fill_init T0_Fill p_Fill_word f_Fill_word p_Fill_extent f_Fill_extent p_Fill_is_free f_Fill_is_free f_InvalidWork_init f_TooMany_init f_Work_init f_plain_fills f_Work_len f_Work_fills f_Work_plain f_Fill_eq f_Work_add f_filled f_is_bit f_is_list f_Work_call f_Work_eq f_Work_is_like f_l_draw f_l_pick f_l_pot f_l_made f_l_rows f_l_last f_l_plain f_l_parts f_l_row f_l_like f_l_bent f_l_row_parts f_l_plain_right f_l_pair_right f_l_told f_l_long cM f_l_great_right f_l_right : Addr} {xdd_CallError xdd_LimitError xdd_InvalidWork xdd_TooMany od_is_between an_is_between od_is_word_of an_is_word_of od_Fill_init an_Fill_init odT_Fill od_Fill_word an_Fill_word od_Fill_extent an_Fill_extent od_Fill_is_free an_Fill_is_free od_InvalidWork_init an_InvalidWork_init od_TooMany_init an_TooMany_init od_Work_init an_Work_init od_plain_fills an_plain_fills od_Work_len an_Work_len od_Work_fills an_Work_fills od_Work_plain an_Work_plain od_Fill_eq an_Fill_eq od_Work_add an_Work_add od_filled an_filled od_is_bit an_is_bit od_is_list an_is_list od_Work_call an_Work_call od_Work_eq an_Work_eq od_Work_is_like an_Work_is_like od_l_draw an_l_draw od_l_pick an_l_pick od_l_pot an_l_pot od_l_made an_l_made od_l_rows an_l_rows od_l_last an_l_last od_l_plain an_l_plain od_l_parts an_l_parts od_l_row an_l_row od_l_like an_l_like od_l_bent an_l_bent od_l_row_parts an_l_row_parts od_l_plain_right an_l_plain_right od_l_pair_right an_l_pair_right od_l_told an_l_told od_l_long an_l_long od_l_great_right an_l_great_right od_l_right an_l_right od_law an_law : Option Addr} {sl_is_between sl_is_word_of sl_Fill_init slT_Fill sl_Fill_word sl_Fill_extent sl_Fill_is_free sl_InvalidWork_init sl_TooMany_init sl_Work_init sl_plain_fills sl_Work_len sl_Work_fills sl_Work_plain sl_Fill_eq sl_Work_add sl_filled sl_is_bit sl_is_list sl_Work_call sl_Work_eq sl_Work_is_like sl_l_draw sl_l_pick sl_l_pot sl_l_made sl_l_rows sl_l_last sl_l_plain sl_l_parts sl_l_row sl_l_like sl_l_bent sl_l_row_parts sl_l_plain_right sl_l_pair_right sl_l_told sl_l_long sl_l_great_right sl_l_right sl_law : Array (Option Value)} {u_FREE u_ZEROS u_SIGN u_LEAST_EXTENT u_LEAST_WIDTH u_MOST_BITS u_MOST_FILLS oc_is_between dc_is_between pm_is_between cd_is_between ct_is_between kV_is_between oc_is_word_of dc_is_word_of pm_is_word_of cd_is_word_of ct_is_word_of kV_is_word_of oc_Fill_init dc_Fill_init pm_Fill_init cd_Fill_init ct_Fill_init kV_Fill_init ocT_Fill oc_Fill_word dc_Fill_word pm_Fill_word cd_Fill_word ct_Fill_word kV_Fill_word oc_Fill_extent dc_Fill_extent pm_Fill_extent cd_Fill_extent ct_Fill_extent kV_Fill_extent oc_Fill_is_free dc_Fill_is_free pm_Fill_is_free cd_Fill_is_free ct_Fill_is_free kV_Fill_is_free oc_InvalidWork_init dc_InvalidWork_init pm_InvalidWork_init cd_InvalidWork_init ct_InvalidWork_init kV_InvalidWork_init oc_TooMany_init dc_TooMany_init pm_TooMany_init cd_TooMany_init ct_TooMany_init kV_TooMany_init oc_Work_init dc_Work_init pm_Work_init cd_Work_init ct_Work_init kV_Work_init oc_plain_fills dc_plain_fills pm_plain_fills cd_plain_fills ct_plain_fills kV_plain_fills oc_Work_len dc_Work_len pm_Work_len cd_Work_len ct_Work_len kV_Work_len oc_Work_fills dc_Work_fills pm_Work_fills cd_Work_fills ct_Work_fills kV_Work_fills oc_Work_plain dc_Work_plain pm_Work_plain cd_Work_plain ct_Work_plain kV_Work_plain oc_Fill_eq dc_Fill_eq pm_Fill_eq cd_Fill_eq ct_Fill_eq kV_Fill_eq oc_Work_add dc_Work_add pm_Work_add cd_Work_add ct_Work_add kV_Work_add oc_filled dc_filled pm_filled cd_filled ct_filled kV_filled oc_is_bit dc_is_bit pm_is_bit cd_is_bit ct_is_bit kV_is_bit oc_is_list dc_is_list pm_is_list cd_is_list ct_is_list kV_is_list oc_Work_call dc_Work_call pm_Work_call cd_Work_call ct_Work_call kV_Work_call oc_Work_eq dc_Work_eq pm_Work_eq cd_Work_eq ct_Work_eq kV_Work_eq oc_Work_is_like dc_Work_is_like pm_Work_is_like cd_Work_is_like ct_Work_is_like kV_Work_is_like oc_l_draw dc_l_draw pm_l_draw cd_l_draw ct_l_draw kV_l_draw oc_l_pick dc_l_pick pm_l_pick cd_l_pick ct_l_pick kV_l_pick oc_l_pot dc_l_pot pm_l_pot cd_l_pot ct_l_pot kV_l_pot oc_l_made dc_l_made pm_l_made cd_l_made ct_l_made kV_l_made oc_l_rows dc_l_rows pm_l_rows cd_l_rows ct_l_rows kV_l_rows oc_l_last dc_l_last pm_l_last cd_l_last ct_l_last kV_l_last oc_l_plain dc_l_plain pm_l_plain cd_l_plain ct_l_plain kV_l_plain oc_l_parts dc_l_parts pm_l_parts cd_l_parts ct_l_parts kV_l_parts oc_l_row dc_l_row pm_l_row cd_l_row ct_l_row kV_l_row oc_l_like dc_l_like pm_l_like cd_l_like ct_l_like kV_l_like oc_l_bent dc_l_bent pm_l_bent cd_l_bent ct_l_bent kV_l_bent oc_l_row_parts dc_l_row_parts pm_l_row_parts cd_l_row_parts ct_l_row_parts kV_l_row_parts oc_l_plain_right dc_l_plain_right pm_l_plain_right cd_l_plain_right ct_l_plain_right kV_l_plain_right oc_l_pair_right dc_l_pair_right pm_l_pair_right cd_l_pair_right ct_l_pair_right kV_l_pair_right oc_l_told dc_l_told pm_l_told cd_l_told ct_l_told kV_l_told oc_l_long dc_l_long pm_l_long cd_l_long ct_l_long kV_l_long oc_l_great_right dc_l_great_right pm_l_great_right ct_l_great_right kV_l_great_right oc_l_right dc_l_right pm_l_right cd_l_right ct_l_right kV_l_right oc_law dc_law pm_law cd_law ct_law kV_law : Value} {xbs_CallError xbm_CallError xsub_CallError xbs_LimitError xbm_LimitError xsub_LimitError xbs_InvalidWork xbm_InvalidWork xsub_InvalidWork xbs_TooMany xbm_TooMany xsub_TooMany re_Fill_word re_Fill_extent re_Fill_is_free : List Value} {itT_Fill : Array Value} {nT_Fill : Nat} {cldFill : ClassData} {xk0_CallError xk1_CallError xk2_CallError xk3_CallError xk5_CallError xk0_LimitError xk1_LimitError xk2_LimitError xk3_LimitError xk5_LimitError xk0_InvalidWork xk1_InvalidWork xk2_InvalidWork xk3_InvalidWork xk5_InvalidWork xk0_TooMany xk1_TooMany xk2_TooMany xk3_TooMany xk5_TooMany fo_str ro_str go_NoneType go_tuple go_str go_int go_list go_bool go_dict gr_NoneType gr_tuple gr_str gr_int gr_list gr_bool gr_dict : Option Value} {xnm_CallError xq_CallError xnm_LimitError xq_LimitError xnm_InvalidWork xq_InvalidWork xnm_TooMany xq_TooMany : Str} {xsn_CallError xsn_LimitError xsn_InvalidWork xsn_TooMany : List Str} {xab_CallError xab_LimitError xab_InvalidWork xab_TooMany : Bool} {xcol_CallError xcol_LimitError xcol_InvalidWork xcol_TooMany : Option Bool} (X : K.In h) (G : h.Ns mainGlobals mg)
    (cn : PySem.W.specialIn K (.builtin "object.__class__") "__get__" = some (some (.builtin "getset_descriptor.__get__")))
    (ctk : PySem.W.takesIn K (.builtin "object.__class__") = some true)
    (g_Fill : PySem.W.nsIn K mainGlobals "Fill" = some (some (.ref ad.c_Fill)))
    (pgFill : PySem.W.plainGet K ad.c_Fill Str.empty = true)
    (hdFill : PySem.W.hasDictIn K ad.c_Fill = true)
    (poFill : PySem.W.plainOver K ad.c_Fill = true)
    (saFill : PySem.W.findIn K (.ref ad.c_Fill) "__setattr__" = some (some (.builtin "object.__setattr__")))
    (caFill : PySem.W.findIn K (.ref ad.c_Fill) "__class__" = some (some (.builtin "object.__class__")))
    (cmFill : PySem.W.mroIn K ad.c_Fill (.type "object") = some true)
    (icFill : PySem.W.isClsIn K ad.c_Fill = true)
    (tyFill : PySem.W.typeIn K (.ref ad.c_Fill) = some (.type "type"))
    (mkFill : PySem.W.makesIn K ad.c_Fill = true)
    (kcFill : PySem.W.keepIn K (.ref ad.c_Fill) = true)
    (suFill_NoneType : PySem.W.subIn K (.type "NoneType") (.ref ad.c_Fill) = some false)
    (suFill_tuple : PySem.W.subIn K (.type "tuple") (.ref ad.c_Fill) = some false)
    (suFill_str : PySem.W.subIn K (.type "str") (.ref ad.c_Fill) = some false)
    (suFill_int : PySem.W.subIn K (.type "int") (.ref ad.c_Fill) = some false)
    (suFill_list : PySem.W.subIn K (.type "list") (.ref ad.c_Fill) = some false)
    (suFill_bool : PySem.W.subIn K (.type "bool") (.ref ad.c_Fill) = some false)
    (suFill_dict : PySem.W.subIn K (.type "dict") (.ref ad.c_Fill) = some false)
    (sxFill_str : PySem.W.subIn K (.ref ad.c_Fill) (.type "str") = some false)
    (sxFill_int : PySem.W.subIn K (.ref ad.c_Fill) (.type "int") = some false)
    (sxFill_bool : PySem.W.subIn K (.ref ad.c_Fill) (.type "bool") = some false)
    (neFill : PySem.W.findIn K (.ref ad.c_Fill) "__ne__" = some (some (.builtin "object.__ne__")))
    (nFill_word : PySem.W.findIn K (.ref ad.c_Fill) "_word" = some none)
    (nFill_extent : PySem.W.findIn K (.ref ad.c_Fill) "_extent" = some none)
    (clFill : PySem.W.clsIn K ad.c_Fill = some cldFill)
    (mrFill : cldFill.mro = [.ref ad.c_Fill, .type "object"])
    (cadFill : PySem.W.findIn K (.ref ad.c_Fill) "__add__" = some none)
    (crdFill : PySem.W.findIn K (.ref ad.c_Fill) "__radd__" = some none)
    (oad : PySem.W.findIn K (.type "object") "__add__" = some none)
    (ord_ : PySem.W.findIn K (.type "object") "__radd__" = some none)
    (g_Work : PySem.W.nsIn K mainGlobals "Work" = some (some (.ref ad.c_Work)))
    (pgWork : PySem.W.plainGet K ad.c_Work Str.empty = true)
    (hdWork : PySem.W.hasDictIn K ad.c_Work = true)
    (poWork : PySem.W.plainOver K ad.c_Work = true)
    (saWork : PySem.W.findIn K (.ref ad.c_Work) "__setattr__" = some (some (.builtin "object.__setattr__")))
    (caWork : PySem.W.findIn K (.ref ad.c_Work) "__class__" = some (some (.builtin "object.__class__")))
    (cmWork : PySem.W.mroIn K ad.c_Work (.type "object") = some true)
    (icWork : PySem.W.isClsIn K ad.c_Work = true)
    (tyWork : PySem.W.typeIn K (.ref ad.c_Work) = some (.type "type"))
    (mkWork : PySem.W.makesIn K ad.c_Work = true)
    (kcWork : PySem.W.keepIn K (.ref ad.c_Work) = true)
    (suWork_NoneType : PySem.W.subIn K (.type "NoneType") (.ref ad.c_Work) = some false)
    (suWork_tuple : PySem.W.subIn K (.type "tuple") (.ref ad.c_Work) = some false)
    (suWork_str : PySem.W.subIn K (.type "str") (.ref ad.c_Work) = some false)
    (suWork_int : PySem.W.subIn K (.type "int") (.ref ad.c_Work) = some false)
    (suWork_list : PySem.W.subIn K (.type "list") (.ref ad.c_Work) = some false)
    (suWork_bool : PySem.W.subIn K (.type "bool") (.ref ad.c_Work) = some false)
    (suWork_dict : PySem.W.subIn K (.type "dict") (.ref ad.c_Work) = some false)
    (sxWork_str : PySem.W.subIn K (.ref ad.c_Work) (.type "str") = some false)
    (sxWork_int : PySem.W.subIn K (.ref ad.c_Work) (.type "int") = some false)
    (sxWork_bool : PySem.W.subIn K (.ref ad.c_Work) (.type "bool") = some false)
    (neWork : PySem.W.findIn K (.ref ad.c_Work) "__ne__" = some (some (.builtin "object.__ne__")))
    (nWork_fills : PySem.W.findIn K (.ref ad.c_Work) "_fills" = some none)
    (sfWork : PySem.W.selfFirst K ad.c_Work = true)
    (sta : PySem.W.findIn K (.type "str") "__add__" = some fo_str)
    (str_ : PySem.W.findIn K (.type "str") "__radd__" = some ro_str)
    (nrWork : PySem.W.findIn K (.ref ad.c_Work) "__radd__" = some none)
    (ta_NoneType : PySem.W.findIn K (.type "NoneType") "__add__" = some go_NoneType)
    (tr_NoneType : PySem.W.findIn K (.type "NoneType") "__radd__" = some gr_NoneType)
    (ta_tuple : PySem.W.findIn K (.type "tuple") "__add__" = some go_tuple)
    (tr_tuple : PySem.W.findIn K (.type "tuple") "__radd__" = some gr_tuple)
    (ta_str : PySem.W.findIn K (.type "str") "__add__" = some go_str)
    (tr_str : PySem.W.findIn K (.type "str") "__radd__" = some gr_str)
    (ta_int : PySem.W.findIn K (.type "int") "__add__" = some go_int)
    (tr_int : PySem.W.findIn K (.type "int") "__radd__" = some gr_int)
    (ta_list : PySem.W.findIn K (.type "list") "__add__" = some go_list)
    (tr_list : PySem.W.findIn K (.type "list") "__radd__" = some gr_list)
    (ta_bool : PySem.W.findIn K (.type "bool") "__add__" = some go_bool)
    (tr_bool : PySem.W.findIn K (.type "bool") "__radd__" = some gr_bool)
    (ta_dict : PySem.W.findIn K (.type "dict") "__add__" = some go_dict)
    (tr_dict : PySem.W.findIn K (.type "dict") "__radd__" = some gr_dict)
    (sxWork_list : PySem.W.subIn K (.ref ad.c_Work) (.type "list") = some false)
    (sxWork_tuple : PySem.W.subIn K (.ref ad.c_Work) (.type "tuple") = some false)
    (ga_FREE : PySem.W.nsIn K mainGlobals "FREE" = some (some u_FREE))
    (v_FREE : RelV (.str "free") u_FREE)
    (ga_ZEROS : PySem.W.nsIn K mainGlobals "ZEROS" = some (some u_ZEROS))
    (v_ZEROS : RelV (.str "zeros") u_ZEROS)
    (ga_SIGN : PySem.W.nsIn K mainGlobals "SIGN" = some (some u_SIGN))
    (v_SIGN : RelV (.str "sign") u_SIGN)
    (ga_LEAST_EXTENT : PySem.W.nsIn K mainGlobals "LEAST_EXTENT" = some (some u_LEAST_EXTENT))
    (v_LEAST_EXTENT : RelV (.int 3) u_LEAST_EXTENT)
    (ga_LEAST_WIDTH : PySem.W.nsIn K mainGlobals "LEAST_WIDTH" = some (some u_LEAST_WIDTH))
    (v_LEAST_WIDTH : RelV (.int 2) u_LEAST_WIDTH)
    (ga_MOST_BITS : PySem.W.nsIn K mainGlobals "MOST_BITS" = some (some u_MOST_BITS))
    (v_MOST_BITS : RelV (.int 128) u_MOST_BITS)
    (ga_MOST_FILLS : PySem.W.nsIn K mainGlobals "MOST_FILLS" = some (some u_MOST_FILLS))
    (v_MOST_FILLS : RelV (.int 126) u_MOST_FILLS)
    (b_ArithmeticError : PySem.W.nsIn K mainGlobals "ArithmeticError" = some none)
    (b_ValueError : PySem.W.nsIn K mainGlobals "ValueError" = some none)
    (b_abs : PySem.W.nsIn K mainGlobals "abs" = some none)
    (b_bool : PySem.W.nsIn K mainGlobals "bool" = some none)
    (b_divmod : PySem.W.nsIn K mainGlobals "divmod" = some none)
    (b_enumerate : PySem.W.nsIn K mainGlobals "enumerate" = some none)
    (b_int : PySem.W.nsIn K mainGlobals "int" = some none)
    (b_isinstance : PySem.W.nsIn K mainGlobals "isinstance" = some none)
    (b_len : PySem.W.nsIn K mainGlobals "len" = some none)
    (b_list : PySem.W.nsIn K mainGlobals "list" = some none)
    (b_max : PySem.W.nsIn K mainGlobals "max" = some none)
    (b_min : PySem.W.nsIn K mainGlobals "min" = some none)
    (b_property : PySem.W.nsIn K mainGlobals "property" = some none)
    (b_range : PySem.W.nsIn K mainGlobals "range" = some none)
    (b_repr : PySem.W.nsIn K mainGlobals "repr" = some none)
    (b_staticmethod : PySem.W.nsIn K mainGlobals "staticmethod" = some none)
    (b_str : PySem.W.nsIn K mainGlobals "str" = some none)
    (b_tuple : PySem.W.nsIn K mainGlobals "tuple" = some none)
    (g_CallError : PySem.W.nsIn K mainGlobals "CallError" = some (some (.ref ad.c_CallError)))
    (xl_CallError : K.lookup ad.c_CallError = some (excClassObj xnm_CallError xq_CallError ad.c_CallError xN_CallError xbs_CallError xbm_CallError true xsn_CallError xsub_CallError xab_CallError xcol_CallError xdd_CallError xk0_CallError xk1_CallError xk2_CallError xk3_CallError xk5_CallError "ValueError.__new__"))
    (xt_CallError : PySem.W.excTail [.type "ValueError", .type "Exception", .type "BaseException", .type "object"] xbm_CallError = true)
    (xsa_CallError : PySem.W.findIn K (.ref ad.c_CallError) "__setattr__" = some (some (.builtin "object.__setattr__")))
    (xex_CallError : PySem.W.subIn K (.ref ad.c_CallError) (.type "BaseException") = some true)
    (xty_CallError : PySem.W.typeIn K (.ref ad.c_CallError) = some (.type "type"))
    (xkc_CallError : PySem.W.keepIn K (.ref ad.c_CallError) = true)
    (xga_CallError : PySem.W.findIn K (.ref ad.c_CallError) "__getattribute__" = some (some (.builtin "BaseException.__getattribute__")))
    (xgg_CallError : PySem.W.findIn K (.ref ad.c_CallError) "__getattr__" = some none)
    (xhd_CallError : PySem.W.hasDictIn K ad.c_CallError = true)
    (xic_CallError : PySem.W.isClsIn K ad.c_CallError = true)
    (xm_CallError_CallError : PySem.W.subIn K (.ref ad.c_CallError) (.ref ad.c_CallError) = some true)
    (xm_CallError_LimitError : PySem.W.subIn K (.ref ad.c_CallError) (.ref ad.c_LimitError) = some false)
    (xm_CallError_InvalidWork : PySem.W.subIn K (.ref ad.c_CallError) (.ref ad.c_InvalidWork) = some false)
    (xm_CallError_TooMany : PySem.W.subIn K (.ref ad.c_CallError) (.ref ad.c_TooMany) = some false)
    (xv_CallError : PySem.W.subIn K (.ref ad.c_CallError) (.type "ValueError") = some true)
    (g_LimitError : PySem.W.nsIn K mainGlobals "LimitError" = some (some (.ref ad.c_LimitError)))
    (xl_LimitError : K.lookup ad.c_LimitError = some (excClassObj xnm_LimitError xq_LimitError ad.c_LimitError xN_LimitError xbs_LimitError xbm_LimitError true xsn_LimitError xsub_LimitError xab_LimitError xcol_LimitError xdd_LimitError xk0_LimitError xk1_LimitError xk2_LimitError xk3_LimitError xk5_LimitError "ArithmeticError.__new__"))
    (xt_LimitError : PySem.W.excTail [.type "ArithmeticError", .type "Exception", .type "BaseException", .type "object"] xbm_LimitError = true)
    (xsa_LimitError : PySem.W.findIn K (.ref ad.c_LimitError) "__setattr__" = some (some (.builtin "object.__setattr__")))
    (xex_LimitError : PySem.W.subIn K (.ref ad.c_LimitError) (.type "BaseException") = some true)
    (xty_LimitError : PySem.W.typeIn K (.ref ad.c_LimitError) = some (.type "type"))
    (xkc_LimitError : PySem.W.keepIn K (.ref ad.c_LimitError) = true)
    (xga_LimitError : PySem.W.findIn K (.ref ad.c_LimitError) "__getattribute__" = some (some (.builtin "BaseException.__getattribute__")))
    (xgg_LimitError : PySem.W.findIn K (.ref ad.c_LimitError) "__getattr__" = some none)
    (xhd_LimitError : PySem.W.hasDictIn K ad.c_LimitError = true)
    (xic_LimitError : PySem.W.isClsIn K ad.c_LimitError = true)
    (xm_LimitError_CallError : PySem.W.subIn K (.ref ad.c_LimitError) (.ref ad.c_CallError) = some false)
    (xm_LimitError_LimitError : PySem.W.subIn K (.ref ad.c_LimitError) (.ref ad.c_LimitError) = some true)
    (xm_LimitError_InvalidWork : PySem.W.subIn K (.ref ad.c_LimitError) (.ref ad.c_InvalidWork) = some false)
    (xm_LimitError_TooMany : PySem.W.subIn K (.ref ad.c_LimitError) (.ref ad.c_TooMany) = some false)
    (xv_LimitError : PySem.W.subIn K (.ref ad.c_LimitError) (.type "ArithmeticError") = some true)
    (g_InvalidWork : PySem.W.nsIn K mainGlobals "InvalidWork" = some (some (.ref ad.c_InvalidWork)))
    (xl_InvalidWork : K.lookup ad.c_InvalidWork = some (excClassObj xnm_InvalidWork xq_InvalidWork ad.c_InvalidWork xN_InvalidWork xbs_InvalidWork xbm_InvalidWork true xsn_InvalidWork xsub_InvalidWork xab_InvalidWork xcol_InvalidWork xdd_InvalidWork xk0_InvalidWork xk1_InvalidWork xk2_InvalidWork xk3_InvalidWork xk5_InvalidWork "ValueError.__new__"))
    (xt_InvalidWork : PySem.W.excTail [.type "ValueError", .type "Exception", .type "BaseException", .type "object"] xbm_InvalidWork = true)
    (xsa_InvalidWork : PySem.W.findIn K (.ref ad.c_InvalidWork) "__setattr__" = some (some (.builtin "object.__setattr__")))
    (xex_InvalidWork : PySem.W.subIn K (.ref ad.c_InvalidWork) (.type "BaseException") = some true)
    (xty_InvalidWork : PySem.W.typeIn K (.ref ad.c_InvalidWork) = some (.type "type"))
    (xkc_InvalidWork : PySem.W.keepIn K (.ref ad.c_InvalidWork) = true)
    (xga_InvalidWork : PySem.W.findIn K (.ref ad.c_InvalidWork) "__getattribute__" = some (some (.builtin "BaseException.__getattribute__")))
    (xgg_InvalidWork : PySem.W.findIn K (.ref ad.c_InvalidWork) "__getattr__" = some none)
    (xhd_InvalidWork : PySem.W.hasDictIn K ad.c_InvalidWork = true)
    (xic_InvalidWork : PySem.W.isClsIn K ad.c_InvalidWork = true)
    (xn_InvalidWork_position : PySem.W.findIn K (.ref ad.c_InvalidWork) "position" = some none)
    (xm_InvalidWork_CallError : PySem.W.subIn K (.ref ad.c_InvalidWork) (.ref ad.c_CallError) = some true)
    (xm_InvalidWork_LimitError : PySem.W.subIn K (.ref ad.c_InvalidWork) (.ref ad.c_LimitError) = some false)
    (xm_InvalidWork_InvalidWork : PySem.W.subIn K (.ref ad.c_InvalidWork) (.ref ad.c_InvalidWork) = some true)
    (xm_InvalidWork_TooMany : PySem.W.subIn K (.ref ad.c_InvalidWork) (.ref ad.c_TooMany) = some false)
    (xe_InvalidWork_CallError : (Value.ref ad.c_InvalidWork == Value.ref ad.c_CallError) = false)
    (xv_InvalidWork : PySem.W.subIn K (.ref ad.c_InvalidWork) (.type "ValueError") = some true)
    (g_TooMany : PySem.W.nsIn K mainGlobals "TooMany" = some (some (.ref ad.c_TooMany)))
    (xl_TooMany : K.lookup ad.c_TooMany = some (excClassObj xnm_TooMany xq_TooMany ad.c_TooMany xN_TooMany xbs_TooMany xbm_TooMany true xsn_TooMany xsub_TooMany xab_TooMany xcol_TooMany xdd_TooMany xk0_TooMany xk1_TooMany xk2_TooMany xk3_TooMany xk5_TooMany "ArithmeticError.__new__"))
    (xt_TooMany : PySem.W.excTail [.type "ArithmeticError", .type "Exception", .type "BaseException", .type "object"] xbm_TooMany = true)
    (xsa_TooMany : PySem.W.findIn K (.ref ad.c_TooMany) "__setattr__" = some (some (.builtin "object.__setattr__")))
    (xex_TooMany : PySem.W.subIn K (.ref ad.c_TooMany) (.type "BaseException") = some true)
    (xty_TooMany : PySem.W.typeIn K (.ref ad.c_TooMany) = some (.type "type"))
    (xkc_TooMany : PySem.W.keepIn K (.ref ad.c_TooMany) = true)
    (xga_TooMany : PySem.W.findIn K (.ref ad.c_TooMany) "__getattribute__" = some (some (.builtin "BaseException.__getattribute__")))
    (xgg_TooMany : PySem.W.findIn K (.ref ad.c_TooMany) "__getattr__" = some none)
    (xhd_TooMany : PySem.W.hasDictIn K ad.c_TooMany = true)
    (xic_TooMany : PySem.W.isClsIn K ad.c_TooMany = true)
    (xn_TooMany_what : PySem.W.findIn K (.ref ad.c_TooMany) "what" = some none)
    (xn_TooMany_limit : PySem.W.findIn K (.ref ad.c_TooMany) "limit" = some none)
    (xm_TooMany_CallError : PySem.W.subIn K (.ref ad.c_TooMany) (.ref ad.c_CallError) = some false)
    (xm_TooMany_LimitError : PySem.W.subIn K (.ref ad.c_TooMany) (.ref ad.c_LimitError) = some true)
    (xm_TooMany_InvalidWork : PySem.W.subIn K (.ref ad.c_TooMany) (.ref ad.c_InvalidWork) = some false)
    (xm_TooMany_TooMany : PySem.W.subIn K (.ref ad.c_TooMany) (.ref ad.c_TooMany) = some true)
    (xe_TooMany_LimitError : (Value.ref ad.c_TooMany == Value.ref ad.c_LimitError) = false)
    (xv_TooMany : PySem.W.subIn K (.ref ad.c_TooMany) (.type "ArithmeticError") = some true)
    (sb_Work_Fill : PySem.W.subIn K (.ref ad.c_Work) (.ref ad.c_Fill) = some false)
    (nq_Work_Fill : (Value.ref ad.c_Work == Value.ref ad.c_Fill) = false)
    (sb_Fill_Work : PySem.W.subIn K (.ref ad.c_Fill) (.ref ad.c_Work) = some false)
    (nq_Fill_Work : (Value.ref ad.c_Fill == Value.ref ad.c_Work) = false)
    (a_is_between : PySem.W.nsIn K mainGlobals "is_between" = some (some (.ref f_is_between)))
    (l_is_between : K.lookup f_is_between = some ⟨oc_is_between, od_is_between, .func (PySem.W.fnOf "is_between" "is_between" (defArgs st_is_between) (defBody st_is_between) (defScope st_is_between) .none kV_is_between dc_is_between pm_is_between an_is_between cd_is_between ct_is_between), sl_is_between⟩)
    (c_is_between : PySem.W.codeIn K cd_is_between "is_between" = true)
    (k_is_between : PySem.W.keepIn K (.ref f_is_between) = true)
    (a_is_word_of : PySem.W.nsIn K mainGlobals "is_word_of" = some (some (.ref f_is_word_of)))
    (l_is_word_of : K.lookup f_is_word_of = some ⟨oc_is_word_of, od_is_word_of, .func (PySem.W.fnOf "is_word_of" "is_word_of" (defArgs st_is_word_of) (defBody st_is_word_of) (defScope st_is_word_of) .none kV_is_word_of dc_is_word_of pm_is_word_of an_is_word_of cd_is_word_of ct_is_word_of), sl_is_word_of⟩)
    (c_is_word_of : PySem.W.codeIn K cd_is_word_of "is_word_of" = true)
    (k_is_word_of : PySem.W.keepIn K (.ref f_is_word_of) = true)
    (a_Fill_init : PySem.W.findIn K (.ref ad.c_Fill) "__init__" = some (some (.ref f_Fill_init)))
    (i_Fill_init : PySem.W.isFn K (.ref f_Fill_init) = true)
    (l_Fill_init : K.lookup f_Fill_init = some ⟨oc_Fill_init, od_Fill_init, .func (PySem.W.fnOf "__init__" "Fill.__init__" (defArgs st_Fill_init) (defBody st_Fill_init) (defScope st_Fill_init) (.ref T0_Fill) kV_Fill_init dc_Fill_init pm_Fill_init an_Fill_init cd_Fill_init ct_Fill_init), sl_Fill_init⟩)
    (c_Fill_init : PySem.W.codeIn K cd_Fill_init "Fill.__init__" = true)
    (k_Fill_init : PySem.W.keepIn K (.ref f_Fill_init) = true)
    (tO_Fill : K.lookup T0_Fill = some ⟨ocT_Fill, odT_Fill, .seq itT_Fill nT_Fill, slT_Fill⟩)
    (vT_Fill : Vals [.str "free", .non] itT_Fill.toList)
    (a_Fill_word : PySem.W.findIn K (.ref ad.c_Fill) "word" = some (some (.ref p_Fill_word)))
    (g_Fill_word : PySem.W.specialIn K (.ref p_Fill_word) "__get__" = some (some (.builtin "property.__get__")))
    (t_Fill_word : PySem.W.takesIn K (.ref p_Fill_word) = some true)
    (r_Fill_word : PySem.W.recIn K p_Fill_word "property" = some (.ref f_Fill_word :: re_Fill_word))
    (l_Fill_word : K.lookup f_Fill_word = some ⟨oc_Fill_word, od_Fill_word, .func (PySem.W.fnOf "word" "Fill.word" (defArgs st_Fill_word) (defBody st_Fill_word) (defScope st_Fill_word) .none kV_Fill_word dc_Fill_word pm_Fill_word an_Fill_word cd_Fill_word ct_Fill_word), sl_Fill_word⟩)
    (c_Fill_word : PySem.W.codeIn K cd_Fill_word "Fill.word" = true)
    (k_Fill_word : PySem.W.keepIn K (.ref f_Fill_word) = true)
    (a_Fill_extent : PySem.W.findIn K (.ref ad.c_Fill) "extent" = some (some (.ref p_Fill_extent)))
    (g_Fill_extent : PySem.W.specialIn K (.ref p_Fill_extent) "__get__" = some (some (.builtin "property.__get__")))
    (t_Fill_extent : PySem.W.takesIn K (.ref p_Fill_extent) = some true)
    (r_Fill_extent : PySem.W.recIn K p_Fill_extent "property" = some (.ref f_Fill_extent :: re_Fill_extent))
    (l_Fill_extent : K.lookup f_Fill_extent = some ⟨oc_Fill_extent, od_Fill_extent, .func (PySem.W.fnOf "extent" "Fill.extent" (defArgs st_Fill_extent) (defBody st_Fill_extent) (defScope st_Fill_extent) .none kV_Fill_extent dc_Fill_extent pm_Fill_extent an_Fill_extent cd_Fill_extent ct_Fill_extent), sl_Fill_extent⟩)
    (c_Fill_extent : PySem.W.codeIn K cd_Fill_extent "Fill.extent" = true)
    (k_Fill_extent : PySem.W.keepIn K (.ref f_Fill_extent) = true)
    (a_Fill_is_free : PySem.W.findIn K (.ref ad.c_Fill) "is_free" = some (some (.ref p_Fill_is_free)))
    (g_Fill_is_free : PySem.W.specialIn K (.ref p_Fill_is_free) "__get__" = some (some (.builtin "property.__get__")))
    (t_Fill_is_free : PySem.W.takesIn K (.ref p_Fill_is_free) = some true)
    (r_Fill_is_free : PySem.W.recIn K p_Fill_is_free "property" = some (.ref f_Fill_is_free :: re_Fill_is_free))
    (l_Fill_is_free : K.lookup f_Fill_is_free = some ⟨oc_Fill_is_free, od_Fill_is_free, .func (PySem.W.fnOf "is_free" "Fill.is_free" (defArgs st_Fill_is_free) (defBody st_Fill_is_free) (defScope st_Fill_is_free) .none kV_Fill_is_free dc_Fill_is_free pm_Fill_is_free an_Fill_is_free cd_Fill_is_free ct_Fill_is_free), sl_Fill_is_free⟩)
    (c_Fill_is_free : PySem.W.codeIn K cd_Fill_is_free "Fill.is_free" = true)
    (k_Fill_is_free : PySem.W.keepIn K (.ref f_Fill_is_free) = true)
    (a_InvalidWork_init : PySem.W.findIn K (.ref ad.c_InvalidWork) "__init__" = some (some (.ref f_InvalidWork_init)))
    (i_InvalidWork_init : PySem.W.isFn K (.ref f_InvalidWork_init) = true)
    (t_InvalidWork_init : PySem.W.typeIn K (.ref f_InvalidWork_init) = some (.type "function"))
    (l_InvalidWork_init : K.lookup f_InvalidWork_init = some ⟨oc_InvalidWork_init, od_InvalidWork_init, .func (PySem.W.fnOf "__init__" "InvalidWork.__init__" (defArgs st_InvalidWork_init) (defBody st_InvalidWork_init) (defScope st_InvalidWork_init) .none kV_InvalidWork_init dc_InvalidWork_init pm_InvalidWork_init an_InvalidWork_init cd_InvalidWork_init ct_InvalidWork_init), sl_InvalidWork_init⟩)
    (c_InvalidWork_init : PySem.W.codeIn K cd_InvalidWork_init "InvalidWork.__init__" = true)
    (k_InvalidWork_init : PySem.W.keepIn K (.ref f_InvalidWork_init) = true)
    (a_TooMany_init : PySem.W.findIn K (.ref ad.c_TooMany) "__init__" = some (some (.ref f_TooMany_init)))
    (i_TooMany_init : PySem.W.isFn K (.ref f_TooMany_init) = true)
    (t_TooMany_init : PySem.W.typeIn K (.ref f_TooMany_init) = some (.type "function"))
    (l_TooMany_init : K.lookup f_TooMany_init = some ⟨oc_TooMany_init, od_TooMany_init, .func (PySem.W.fnOf "__init__" "TooMany.__init__" (defArgs st_TooMany_init) (defBody st_TooMany_init) (defScope st_TooMany_init) .none kV_TooMany_init dc_TooMany_init pm_TooMany_init an_TooMany_init cd_TooMany_init ct_TooMany_init), sl_TooMany_init⟩)
    (c_TooMany_init : PySem.W.codeIn K cd_TooMany_init "TooMany.__init__" = true)
    (k_TooMany_init : PySem.W.keepIn K (.ref f_TooMany_init) = true)
    (a_Work_init : PySem.W.findIn K (.ref ad.c_Work) "__init__" = some (some (.ref f_Work_init)))
    (i_Work_init : PySem.W.isFn K (.ref f_Work_init) = true)
    (l_Work_init : K.lookup f_Work_init = some ⟨oc_Work_init, od_Work_init, .func (PySem.W.fnOf "__init__" "Work.__init__" (defArgs st_Work_init) (defBody st_Work_init) (defScope st_Work_init) .none kV_Work_init dc_Work_init pm_Work_init an_Work_init cd_Work_init ct_Work_init), sl_Work_init⟩)
    (c_Work_init : PySem.W.codeIn K cd_Work_init "Work.__init__" = true)
    (k_Work_init : PySem.W.keepIn K (.ref f_Work_init) = true)
    (a_plain_fills : PySem.W.nsIn K mainGlobals "plain_fills" = some (some (.ref f_plain_fills)))
    (l_plain_fills : K.lookup f_plain_fills = some ⟨oc_plain_fills, od_plain_fills, .func (PySem.W.fnOf "plain_fills" "plain_fills" (defArgs st_plain_fills) (defBody st_plain_fills) (defScope st_plain_fills) .none kV_plain_fills dc_plain_fills pm_plain_fills an_plain_fills cd_plain_fills ct_plain_fills), sl_plain_fills⟩)
    (c_plain_fills : PySem.W.codeIn K cd_plain_fills "plain_fills" = true)
    (k_plain_fills : PySem.W.keepIn K (.ref f_plain_fills) = true)
    (a_Work_len : PySem.W.findIn K (.ref ad.c_Work) "__len__" = some (some (.ref f_Work_len)))
    (i_Work_len : PySem.W.isFn K (.ref f_Work_len) = true)
    (l_Work_len : K.lookup f_Work_len = some ⟨oc_Work_len, od_Work_len, .func (PySem.W.fnOf "__len__" "Work.__len__" (defArgs st_Work_len) (defBody st_Work_len) (defScope st_Work_len) .none kV_Work_len dc_Work_len pm_Work_len an_Work_len cd_Work_len ct_Work_len), sl_Work_len⟩)
    (c_Work_len : PySem.W.codeIn K cd_Work_len "Work.__len__" = true)
    (k_Work_len : PySem.W.keepIn K (.ref f_Work_len) = true)
    (a_Work_fills : PySem.W.findIn K (.ref ad.c_Work) "fills" = some (some (.ref f_Work_fills)))
    (i_Work_fills : PySem.W.isFn K (.ref f_Work_fills) = true)
    (l_Work_fills : K.lookup f_Work_fills = some ⟨oc_Work_fills, od_Work_fills, .func (PySem.W.fnOf "fills" "Work.fills" (defArgs st_Work_fills) (defBody st_Work_fills) (defScope st_Work_fills) .none kV_Work_fills dc_Work_fills pm_Work_fills an_Work_fills cd_Work_fills ct_Work_fills), sl_Work_fills⟩)
    (c_Work_fills : PySem.W.codeIn K cd_Work_fills "Work.fills" = true)
    (k_Work_fills : PySem.W.keepIn K (.ref f_Work_fills) = true)
    (a_Work_plain : PySem.W.findIn K (.ref ad.c_Work) "plain" = some (some (.ref f_Work_plain)))
    (i_Work_plain : PySem.W.isFn K (.ref f_Work_plain) = true)
    (l_Work_plain : K.lookup f_Work_plain = some ⟨oc_Work_plain, od_Work_plain, .func (PySem.W.fnOf "plain" "Work.plain" (defArgs st_Work_plain) (defBody st_Work_plain) (defScope st_Work_plain) .none kV_Work_plain dc_Work_plain pm_Work_plain an_Work_plain cd_Work_plain ct_Work_plain), sl_Work_plain⟩)
    (c_Work_plain : PySem.W.codeIn K cd_Work_plain "Work.plain" = true)
    (k_Work_plain : PySem.W.keepIn K (.ref f_Work_plain) = true)
    (a_Fill_eq : PySem.W.findIn K (.ref ad.c_Fill) "__eq__" = some (some (.ref f_Fill_eq)))
    (i_Fill_eq : PySem.W.isFn K (.ref f_Fill_eq) = true)
    (l_Fill_eq : K.lookup f_Fill_eq = some ⟨oc_Fill_eq, od_Fill_eq, .func (PySem.W.fnOf "__eq__" "Fill.__eq__" (defArgs st_Fill_eq) (defBody st_Fill_eq) (defScope st_Fill_eq) .none kV_Fill_eq dc_Fill_eq pm_Fill_eq an_Fill_eq cd_Fill_eq ct_Fill_eq), sl_Fill_eq⟩)
    (c_Fill_eq : PySem.W.codeIn K cd_Fill_eq "Fill.__eq__" = true)
    (k_Fill_eq : PySem.W.keepIn K (.ref f_Fill_eq) = true)
    (a_Work_add : PySem.W.findIn K (.ref ad.c_Work) "__add__" = some (some (.ref f_Work_add)))
    (i_Work_add : PySem.W.isFn K (.ref f_Work_add) = true)
    (l_Work_add : K.lookup f_Work_add = some ⟨oc_Work_add, od_Work_add, .func (PySem.W.fnOf "__add__" "Work.__add__" (defArgs st_Work_add) (defBody st_Work_add) (defScope st_Work_add) .none kV_Work_add dc_Work_add pm_Work_add an_Work_add cd_Work_add ct_Work_add), sl_Work_add⟩)
    (c_Work_add : PySem.W.codeIn K cd_Work_add "Work.__add__" = true)
    (k_Work_add : PySem.W.keepIn K (.ref f_Work_add) = true)
    (a_filled : PySem.W.nsIn K mainGlobals "filled" = some (some (.ref f_filled)))
    (l_filled : K.lookup f_filled = some ⟨oc_filled, od_filled, .func (PySem.W.fnOf "filled" "filled" (defArgs st_filled) (defBody st_filled) (defScope st_filled) .none kV_filled dc_filled pm_filled an_filled cd_filled ct_filled), sl_filled⟩)
    (c_filled : PySem.W.codeIn K cd_filled "filled" = true)
    (k_filled : PySem.W.keepIn K (.ref f_filled) = true)
    (a_is_bit : PySem.W.nsIn K mainGlobals "is_bit" = some (some (.ref f_is_bit)))
    (l_is_bit : K.lookup f_is_bit = some ⟨oc_is_bit, od_is_bit, .func (PySem.W.fnOf "is_bit" "is_bit" (defArgs st_is_bit) (defBody st_is_bit) (defScope st_is_bit) .none kV_is_bit dc_is_bit pm_is_bit an_is_bit cd_is_bit ct_is_bit), sl_is_bit⟩)
    (c_is_bit : PySem.W.codeIn K cd_is_bit "is_bit" = true)
    (k_is_bit : PySem.W.keepIn K (.ref f_is_bit) = true)
    (a_is_list : PySem.W.nsIn K mainGlobals "is_list" = some (some (.ref f_is_list)))
    (l_is_list : K.lookup f_is_list = some ⟨oc_is_list, od_is_list, .func (PySem.W.fnOf "is_list" "is_list" (defArgs st_is_list) (defBody st_is_list) (defScope st_is_list) .none kV_is_list dc_is_list pm_is_list an_is_list cd_is_list ct_is_list), sl_is_list⟩)
    (c_is_list : PySem.W.codeIn K cd_is_list "is_list" = true)
    (k_is_list : PySem.W.keepIn K (.ref f_is_list) = true)
    (a_Work_call : PySem.W.findIn K (.ref ad.c_Work) "__call__" = some (some (.ref f_Work_call)))
    (i_Work_call : PySem.W.isFn K (.ref f_Work_call) = true)
    (n_Work_call : PySem.W.fnIn K f_Work_call = true)
    (l_Work_call : K.lookup f_Work_call = some ⟨oc_Work_call, od_Work_call, .func (PySem.W.fnOf "__call__" "Work.__call__" (defArgs st_Work_call) (defBody st_Work_call) (defScope st_Work_call) .none kV_Work_call dc_Work_call pm_Work_call an_Work_call cd_Work_call ct_Work_call), sl_Work_call⟩)
    (c_Work_call : PySem.W.codeIn K cd_Work_call "Work.__call__" = true)
    (k_Work_call : PySem.W.keepIn K (.ref f_Work_call) = true)
    (a_Work_eq : PySem.W.findIn K (.ref ad.c_Work) "__eq__" = some (some (.ref f_Work_eq)))
    (i_Work_eq : PySem.W.isFn K (.ref f_Work_eq) = true)
    (l_Work_eq : K.lookup f_Work_eq = some ⟨oc_Work_eq, od_Work_eq, .func (PySem.W.fnOf "__eq__" "Work.__eq__" (defArgs st_Work_eq) (defBody st_Work_eq) (defScope st_Work_eq) .none kV_Work_eq dc_Work_eq pm_Work_eq an_Work_eq cd_Work_eq ct_Work_eq), sl_Work_eq⟩)
    (c_Work_eq : PySem.W.codeIn K cd_Work_eq "Work.__eq__" = true)
    (k_Work_eq : PySem.W.keepIn K (.ref f_Work_eq) = true)
    (a_Work_is_like : PySem.W.findIn K (.ref ad.c_Work) "is_like" = some (some (.ref f_Work_is_like)))
    (i_Work_is_like : PySem.W.isFn K (.ref f_Work_is_like) = true)
    (l_Work_is_like : K.lookup f_Work_is_like = some ⟨oc_Work_is_like, od_Work_is_like, .func (PySem.W.fnOf "is_like" "Work.is_like" (defArgs st_Work_is_like) (defBody st_Work_is_like) (defScope st_Work_is_like) .none kV_Work_is_like dc_Work_is_like pm_Work_is_like an_Work_is_like cd_Work_is_like ct_Work_is_like), sl_Work_is_like⟩)
    (c_Work_is_like : PySem.W.codeIn K cd_Work_is_like "Work.is_like" = true)
    (k_Work_is_like : PySem.W.keepIn K (.ref f_Work_is_like) = true)
    (a_l_draw : PySem.W.nsIn K mainGlobals "_law_draw" = some (some (.ref f_l_draw)))
    (l_l_draw : K.lookup f_l_draw = some ⟨oc_l_draw, od_l_draw, .func (PySem.W.fnOf "_law_draw" "_law_draw" (defArgs st_l_draw) (defBody st_l_draw) (defScope st_l_draw) .none kV_l_draw dc_l_draw pm_l_draw an_l_draw cd_l_draw ct_l_draw), sl_l_draw⟩)
    (c_l_draw : PySem.W.codeIn K cd_l_draw "_law_draw" = true)
    (k_l_draw : PySem.W.keepIn K (.ref f_l_draw) = true)
    (a_l_pick : PySem.W.nsIn K mainGlobals "_law_pick" = some (some (.ref f_l_pick)))
    (l_l_pick : K.lookup f_l_pick = some ⟨oc_l_pick, od_l_pick, .func (PySem.W.fnOf "_law_pick" "_law_pick" (defArgs st_l_pick) (defBody st_l_pick) (defScope st_l_pick) .none kV_l_pick dc_l_pick pm_l_pick an_l_pick cd_l_pick ct_l_pick), sl_l_pick⟩)
    (c_l_pick : PySem.W.codeIn K cd_l_pick "_law_pick" = true)
    (k_l_pick : PySem.W.keepIn K (.ref f_l_pick) = true)
    (a_l_pot : PySem.W.nsIn K mainGlobals "_law_pot" = some (some (.ref f_l_pot)))
    (l_l_pot : K.lookup f_l_pot = some ⟨oc_l_pot, od_l_pot, .func (PySem.W.fnOf "_law_pot" "_law_pot" (defArgs st_l_pot) (defBody st_l_pot) (defScope st_l_pot) .none kV_l_pot dc_l_pot pm_l_pot an_l_pot cd_l_pot ct_l_pot), sl_l_pot⟩)
    (c_l_pot : PySem.W.codeIn K cd_l_pot "_law_pot" = true)
    (k_l_pot : PySem.W.keepIn K (.ref f_l_pot) = true)
    (a_l_made : PySem.W.nsIn K mainGlobals "_law_made" = some (some (.ref f_l_made)))
    (l_l_made : K.lookup f_l_made = some ⟨oc_l_made, od_l_made, .func (PySem.W.fnOf "_law_made" "_law_made" (defArgs st_l_made) (defBody st_l_made) (defScope st_l_made) .none kV_l_made dc_l_made pm_l_made an_l_made cd_l_made ct_l_made), sl_l_made⟩)
    (c_l_made : PySem.W.codeIn K cd_l_made "_law_made" = true)
    (k_l_made : PySem.W.keepIn K (.ref f_l_made) = true)
    (a_l_rows : PySem.W.nsIn K mainGlobals "_law_rows" = some (some (.ref f_l_rows)))
    (l_l_rows : K.lookup f_l_rows = some ⟨oc_l_rows, od_l_rows, .func (PySem.W.fnOf "_law_rows" "_law_rows" (defArgs st_l_rows) (defBody st_l_rows) (defScope st_l_rows) .none kV_l_rows dc_l_rows pm_l_rows an_l_rows cd_l_rows ct_l_rows), sl_l_rows⟩)
    (c_l_rows : PySem.W.codeIn K cd_l_rows "_law_rows" = true)
    (k_l_rows : PySem.W.keepIn K (.ref f_l_rows) = true)
    (a_l_last : PySem.W.nsIn K mainGlobals "_law_last" = some (some (.ref f_l_last)))
    (l_l_last : K.lookup f_l_last = some ⟨oc_l_last, od_l_last, .func (PySem.W.fnOf "_law_last" "_law_last" (defArgs st_l_last) (defBody st_l_last) (defScope st_l_last) .none kV_l_last dc_l_last pm_l_last an_l_last cd_l_last ct_l_last), sl_l_last⟩)
    (c_l_last : PySem.W.codeIn K cd_l_last "_law_last" = true)
    (k_l_last : PySem.W.keepIn K (.ref f_l_last) = true)
    (a_l_plain : PySem.W.nsIn K mainGlobals "_law_plain" = some (some (.ref f_l_plain)))
    (l_l_plain : K.lookup f_l_plain = some ⟨oc_l_plain, od_l_plain, .func (PySem.W.fnOf "_law_plain" "_law_plain" (defArgs st_l_plain) (defBody st_l_plain) (defScope st_l_plain) .none kV_l_plain dc_l_plain pm_l_plain an_l_plain cd_l_plain ct_l_plain), sl_l_plain⟩)
    (c_l_plain : PySem.W.codeIn K cd_l_plain "_law_plain" = true)
    (k_l_plain : PySem.W.keepIn K (.ref f_l_plain) = true)
    (a_l_parts : PySem.W.nsIn K mainGlobals "_law_parts" = some (some (.ref f_l_parts)))
    (l_l_parts : K.lookup f_l_parts = some ⟨oc_l_parts, od_l_parts, .func (PySem.W.fnOf "_law_parts" "_law_parts" (defArgs st_l_parts) (defBody st_l_parts) (defScope st_l_parts) .none kV_l_parts dc_l_parts pm_l_parts an_l_parts cd_l_parts ct_l_parts), sl_l_parts⟩)
    (c_l_parts : PySem.W.codeIn K cd_l_parts "_law_parts" = true)
    (k_l_parts : PySem.W.keepIn K (.ref f_l_parts) = true)
    (a_l_row : PySem.W.nsIn K mainGlobals "_law_row" = some (some (.ref f_l_row)))
    (l_l_row : K.lookup f_l_row = some ⟨oc_l_row, od_l_row, .func (PySem.W.fnOf "_law_row" "_law_row" (defArgs st_l_row) (defBody st_l_row) (defScope st_l_row) .none kV_l_row dc_l_row pm_l_row an_l_row cd_l_row ct_l_row), sl_l_row⟩)
    (c_l_row : PySem.W.codeIn K cd_l_row "_law_row" = true)
    (k_l_row : PySem.W.keepIn K (.ref f_l_row) = true)
    (a_l_like : PySem.W.nsIn K mainGlobals "_law_like" = some (some (.ref f_l_like)))
    (l_l_like : K.lookup f_l_like = some ⟨oc_l_like, od_l_like, .func (PySem.W.fnOf "_law_like" "_law_like" (defArgs st_l_like) (defBody st_l_like) (defScope st_l_like) .none kV_l_like dc_l_like pm_l_like an_l_like cd_l_like ct_l_like), sl_l_like⟩)
    (c_l_like : PySem.W.codeIn K cd_l_like "_law_like" = true)
    (k_l_like : PySem.W.keepIn K (.ref f_l_like) = true)
    (a_l_bent : PySem.W.nsIn K mainGlobals "_law_bent" = some (some (.ref f_l_bent)))
    (l_l_bent : K.lookup f_l_bent = some ⟨oc_l_bent, od_l_bent, .func (PySem.W.fnOf "_law_bent" "_law_bent" (defArgs st_l_bent) (defBody st_l_bent) (defScope st_l_bent) .none kV_l_bent dc_l_bent pm_l_bent an_l_bent cd_l_bent ct_l_bent), sl_l_bent⟩)
    (c_l_bent : PySem.W.codeIn K cd_l_bent "_law_bent" = true)
    (k_l_bent : PySem.W.keepIn K (.ref f_l_bent) = true)
    (a_l_row_parts : PySem.W.nsIn K mainGlobals "_law_row_parts" = some (some (.ref f_l_row_parts)))
    (l_l_row_parts : K.lookup f_l_row_parts = some ⟨oc_l_row_parts, od_l_row_parts, .func (PySem.W.fnOf "_law_row_parts" "_law_row_parts" (defArgs st_l_row_parts) (defBody st_l_row_parts) (defScope st_l_row_parts) .none kV_l_row_parts dc_l_row_parts pm_l_row_parts an_l_row_parts cd_l_row_parts ct_l_row_parts), sl_l_row_parts⟩)
    (c_l_row_parts : PySem.W.codeIn K cd_l_row_parts "_law_row_parts" = true)
    (k_l_row_parts : PySem.W.keepIn K (.ref f_l_row_parts) = true)
    (a_l_plain_right : PySem.W.nsIn K mainGlobals "_law_plain_right" = some (some (.ref f_l_plain_right)))
    (l_l_plain_right : K.lookup f_l_plain_right = some ⟨oc_l_plain_right, od_l_plain_right, .func (PySem.W.fnOf "_law_plain_right" "_law_plain_right" (defArgs st_l_plain_right) (defBody st_l_plain_right) (defScope st_l_plain_right) .none kV_l_plain_right dc_l_plain_right pm_l_plain_right an_l_plain_right cd_l_plain_right ct_l_plain_right), sl_l_plain_right⟩)
    (c_l_plain_right : PySem.W.codeIn K cd_l_plain_right "_law_plain_right" = true)
    (k_l_plain_right : PySem.W.keepIn K (.ref f_l_plain_right) = true)
    (a_l_pair_right : PySem.W.nsIn K mainGlobals "_law_pair_right" = some (some (.ref f_l_pair_right)))
    (l_l_pair_right : K.lookup f_l_pair_right = some ⟨oc_l_pair_right, od_l_pair_right, .func (PySem.W.fnOf "_law_pair_right" "_law_pair_right" (defArgs st_l_pair_right) (defBody st_l_pair_right) (defScope st_l_pair_right) .none kV_l_pair_right dc_l_pair_right pm_l_pair_right an_l_pair_right cd_l_pair_right ct_l_pair_right), sl_l_pair_right⟩)
    (c_l_pair_right : PySem.W.codeIn K cd_l_pair_right "_law_pair_right" = true)
    (k_l_pair_right : PySem.W.keepIn K (.ref f_l_pair_right) = true)
    (a_l_told : PySem.W.nsIn K mainGlobals "_law_told" = some (some (.ref f_l_told)))
    (l_l_told : K.lookup f_l_told = some ⟨oc_l_told, od_l_told, .func (PySem.W.fnOf "_law_told" "_law_told" (defArgs st_l_told) (defBody st_l_told) (defScope st_l_told) .none kV_l_told dc_l_told pm_l_told an_l_told cd_l_told ct_l_told), sl_l_told⟩)
    (c_l_told : PySem.W.codeIn K cd_l_told "_law_told" = true)
    (k_l_told : PySem.W.keepIn K (.ref f_l_told) = true)
    (a_l_long : PySem.W.nsIn K mainGlobals "_law_long" = some (some (.ref f_l_long)))
    (l_l_long : K.lookup f_l_long = some ⟨oc_l_long, od_l_long, .func (PySem.W.fnOf "_law_long" "_law_long" (defArgs st_l_long) (defBody st_l_long) (defScope st_l_long) .none kV_l_long dc_l_long pm_l_long an_l_long cd_l_long ct_l_long), sl_l_long⟩)
    (c_l_long : PySem.W.codeIn K cd_l_long "_law_long" = true)
    (k_l_long : PySem.W.keepIn K (.ref f_l_long) = true)
    (a_l_great_right : PySem.W.nsIn K mainGlobals "_law_great_right" = some (some (.ref f_l_great_right)))
    (l_l_great_right : K.lookup f_l_great_right = some ⟨oc_l_great_right, od_l_great_right, .func (PySem.W.fnOf "_law_great_right" "_law_great_right" (defArgs st_l_great_right) (defBody st_l_great_right) (defScope st_l_great_right) .none kV_l_great_right dc_l_great_right pm_l_great_right an_l_great_right (.ref cM) ct_l_great_right), sl_l_great_right⟩)
    (c_l_great_right : PySem.W.codeIn K (.ref cM) "_law_great_right" = true)
    (k_l_great_right : PySem.W.keepIn K (.ref f_l_great_right) = true)
    (a_l_right : PySem.W.nsIn K mainGlobals "_law_right" = some (some (.ref f_l_right)))
    (l_l_right : K.lookup f_l_right = some ⟨oc_l_right, od_l_right, .func (PySem.W.fnOf "_law_right" "_law_right" (defArgs st_l_right) (defBody st_l_right) (defScope st_l_right) .none kV_l_right dc_l_right pm_l_right an_l_right cd_l_right ct_l_right), sl_l_right⟩)
    (c_l_right : PySem.W.codeIn K cd_l_right "_law_right" = true)
    (k_l_right : PySem.W.keepIn K (.ref f_l_right) = true)
    (l_law : K.lookup f_law = some ⟨oc_law, od_law, .func (PySem.W.fnOf "law" "law" (defArgs st_law) (defBody st_law) (defScope st_law) .none kV_law dc_law pm_law an_law cd_law ct_law), sl_law⟩)
    (c_law : PySem.W.codeIn K cd_law "law" = true)
    (k_law : PySem.W.keepIn K (.ref f_law) = true) :
    ∃ fd : FuncData, (∀ (s : Shared) (v : Value), BindsTo s fd ⟨[v], []⟩ [("_law_script", v)]) ∧ ∀ base : Heap, K.In base → base.Ns mainGlobals mg → LamX.TabB base mg cM PM → FnG l.prog w K mg base 11 f_law fd ["_law_script"] (spLaw K PM) := by
  refine ⟨PySem.W.fnOf "law" "law" (defArgs st_law) (defBody st_law) (defScope st_law) .none kV_law dc_law pm_law an_law cd_law ct_law, fun s v => .of_eq rfl, fun base _ _ TB_PM => ?_⟩
  have cl_Fill : Cls K ad.c_Fill := ⟨pgFill, hdFill, poFill, saFill⟩
  have cl_Work : Cls K ad.c_Work := ⟨pgWork, hdWork, poWork, saWork⟩
  have B : Bi mg := ⟨PySem.W.mg_none_of X G b_ArithmeticError, PySem.W.mg_none_of X G b_ValueError, PySem.W.mg_none_of X G b_abs, PySem.W.mg_none_of X G b_bool, PySem.W.mg_none_of X G b_divmod, PySem.W.mg_none_of X G b_enumerate, PySem.W.mg_none_of X G b_int, PySem.W.mg_none_of X G b_isinstance, PySem.W.mg_none_of X G b_len, PySem.W.mg_none_of X G b_list, PySem.W.mg_none_of X G b_max, PySem.W.mg_none_of X G b_min, PySem.W.mg_none_of X G b_property, PySem.W.mg_none_of X G b_range, PySem.W.mg_none_of X G b_repr, PySem.W.mg_none_of X G b_staticmethod, PySem.W.mg_none_of X G b_str, PySem.W.mg_none_of X G b_tuple⟩
  have X_CallError : ExB K ad.c_CallError "ValueError" "ValueError.__new__" "ValueError.__init__" [.type "ValueError", .type "Exception", .type "BaseException", .type "object"] := ⟨PySem.F.excBase_ValueError, PySem.F.store_ValueError, ⟨_, _, _, _, _, _, _, _, _, _, _, _, _, _, _, xl_CallError, xt_CallError⟩, xsa_CallError, xex_CallError, xty_CallError, xkc_CallError⟩
  have X_LimitError : ExB K ad.c_LimitError "ArithmeticError" "ArithmeticError.__new__" "ArithmeticError.__init__" [.type "ArithmeticError", .type "Exception", .type "BaseException", .type "object"] := ⟨PySem.F.excBase_ArithmeticError, PySem.F.store_ArithmeticError, ⟨_, _, _, _, _, _, _, _, _, _, _, _, _, _, _, xl_LimitError, xt_LimitError⟩, xsa_LimitError, xex_LimitError, xty_LimitError, xkc_LimitError⟩
  have X_InvalidWork : ExB K ad.c_InvalidWork "ValueError" "ValueError.__new__" "ValueError.__init__" [.type "ValueError", .type "Exception", .type "BaseException", .type "object"] := ⟨PySem.F.excBase_ValueError, PySem.F.store_ValueError, ⟨_, _, _, _, _, _, _, _, _, _, _, _, _, _, _, xl_InvalidWork, xt_InvalidWork⟩, xsa_InvalidWork, xex_InvalidWork, xty_InvalidWork, xkc_InvalidWork⟩
  have X_TooMany : ExB K ad.c_TooMany "ArithmeticError" "ArithmeticError.__new__" "ArithmeticError.__init__" [.type "ArithmeticError", .type "Exception", .type "BaseException", .type "object"] := ⟨PySem.F.excBase_ArithmeticError, PySem.F.store_ArithmeticError, ⟨_, _, _, _, _, _, _, _, _, _, _, _, _, _, _, xl_TooMany, xt_TooMany⟩, xsa_TooMany, xex_TooMany, xty_TooMany, xkc_TooMany⟩
  have T : Txt K mg ad := ⟨B, ⟨_, PySem.W.mg_of X G ga_FREE, v_FREE⟩, ⟨_, PySem.W.mg_of X G ga_ZEROS, v_ZEROS⟩, ⟨_, PySem.W.mg_of X G ga_SIGN, v_SIGN⟩, ⟨_, PySem.W.mg_of X G ga_LEAST_EXTENT, v_LEAST_EXTENT⟩, ⟨_, PySem.W.mg_of X G ga_LEAST_WIDTH, v_LEAST_WIDTH⟩, ⟨_, PySem.W.mg_of X G ga_MOST_BITS, v_MOST_BITS⟩, ⟨_, PySem.W.mg_of X G ga_MOST_FILLS, v_MOST_FILLS⟩, PySem.W.mg_of X G g_Fill, ⟨cl_Fill, caFill, cn, ctk, cmFill⟩, (fun T hT => by
      simp only [List.mem_cons, List.not_mem_nil, or_false] at hT
      rcases hT with rfl | rfl | rfl
      · exact ki_of sxFill_str
      · exact ki_of sxFill_int
      · exact ki_of sxFill_bool), ⟨⟨_, clFill, mrFill⟩, by rw [du_add]; exact cadFill, by rw [dr_add]; exact crdFill, by rw [du_add]; exact oad, by rw [dr_add]; exact ord_⟩, neFill, nFill_word, nFill_extent, (fun T hT => by
      simp only [List.mem_cons, List.not_mem_nil, or_false] at hT
      rcases hT with rfl | rfl | rfl | rfl | rfl | rfl | rfl
      · exact kt_of icFill tyFill suFill_NoneType
      · exact kt_of icFill tyFill suFill_tuple
      · exact kt_of icFill tyFill suFill_str
      · exact kt_of icFill tyFill suFill_int
      · exact kt_of icFill tyFill suFill_list
      · exact kt_of icFill tyFill suFill_bool
      · exact kt_of icFill tyFill suFill_dict), PySem.W.mg_of X G g_Work, ⟨cl_Work, caWork, cn, ctk, cmWork⟩, sfWork, ⟨sfWork, ⟨_, by rw [dr_add]; exact nrWork, .inl rfl⟩, ⟨_, by rw [du_add]; exact sta⟩, ⟨_, by rw [dr_add]; exact str_⟩, suWork_str⟩, (fun T hT => by
      simp only [List.mem_cons, List.not_mem_nil, or_false] at hT
      rcases hT with rfl | rfl | rfl
      · exact ki_of sxWork_str
      · exact ki_of sxWork_int
      · exact ki_of sxWork_bool), (fun T hT => by
      simp only [List.mem_cons, List.not_mem_nil, or_false] at hT
      rcases hT with rfl | rfl
      · exact ki_of sxWork_list
      · exact ki_of sxWork_tuple), (fun T hT => by
      simp only [UL.T7, List.mem_cons, List.not_mem_nil, or_false] at hT
      rcases hT with rfl | rfl | rfl | rfl | rfl | rfl | rfl
      · exact ⟨sfWork, ⟨_, by rw [dr_add]; exact nrWork, .inl rfl⟩, ⟨_, by rw [du_add]; exact ta_NoneType⟩, ⟨_, by rw [dr_add]; exact tr_NoneType⟩, suWork_NoneType⟩
      · exact ⟨sfWork, ⟨_, by rw [dr_add]; exact nrWork, .inl rfl⟩, ⟨_, by rw [du_add]; exact ta_tuple⟩, ⟨_, by rw [dr_add]; exact tr_tuple⟩, suWork_tuple⟩
      · exact ⟨sfWork, ⟨_, by rw [dr_add]; exact nrWork, .inl rfl⟩, ⟨_, by rw [du_add]; exact ta_str⟩, ⟨_, by rw [dr_add]; exact tr_str⟩, suWork_str⟩
      · exact ⟨sfWork, ⟨_, by rw [dr_add]; exact nrWork, .inl rfl⟩, ⟨_, by rw [du_add]; exact ta_int⟩, ⟨_, by rw [dr_add]; exact tr_int⟩, suWork_int⟩
      · exact ⟨sfWork, ⟨_, by rw [dr_add]; exact nrWork, .inl rfl⟩, ⟨_, by rw [du_add]; exact ta_list⟩, ⟨_, by rw [dr_add]; exact tr_list⟩, suWork_list⟩
      · exact ⟨sfWork, ⟨_, by rw [dr_add]; exact nrWork, .inl rfl⟩, ⟨_, by rw [du_add]; exact ta_bool⟩, ⟨_, by rw [dr_add]; exact tr_bool⟩, suWork_bool⟩
      · exact ⟨sfWork, ⟨_, by rw [dr_add]; exact nrWork, .inl rfl⟩, ⟨_, by rw [du_add]; exact ta_dict⟩, ⟨_, by rw [dr_add]; exact tr_dict⟩, suWork_dict⟩), neWork, nWork_fills, (fun T hT => by
      simp only [List.mem_cons, List.not_mem_nil, or_false] at hT
      rcases hT with rfl | rfl | rfl | rfl | rfl | rfl | rfl
      · exact kt_of icWork tyWork suWork_NoneType
      · exact kt_of icWork tyWork suWork_tuple
      · exact kt_of icWork tyWork suWork_str
      · exact kt_of icWork tyWork suWork_int
      · exact kt_of icWork tyWork suWork_list
      · exact kt_of icWork tyWork suWork_bool
      · exact kt_of icWork tyWork suWork_dict), ko_of icFill tyFill sb_Work_Fill nq_Work_Fill, nf_of sb_Work_Fill, ko_of icWork tyWork sb_Fill_Work nq_Fill_Work, nf_of sb_Fill_Work, PySem.W.mg_of X G g_CallError, X_CallError, ⟨xga_CallError, xgg_CallError, xex_CallError, xhd_CallError⟩, xm_of xex_CallError xic_CallError xty_CallError xm_CallError_CallError, xm_of xex_LimitError xic_LimitError xty_LimitError xm_CallError_LimitError, xm_of xex_InvalidWork xic_InvalidWork xty_InvalidWork xm_CallError_InvalidWork, xm_of xex_TooMany xic_TooMany xty_TooMany xm_CallError_TooMany, kb_of (by decide +kernel) xv_CallError, PySem.W.mg_of X G g_LimitError, X_LimitError, ⟨xga_LimitError, xgg_LimitError, xex_LimitError, xhd_LimitError⟩, xm_of xex_CallError xic_CallError xty_CallError xm_LimitError_CallError, xm_of xex_LimitError xic_LimitError xty_LimitError xm_LimitError_LimitError, xm_of xex_InvalidWork xic_InvalidWork xty_InvalidWork xm_LimitError_InvalidWork, xm_of xex_TooMany xic_TooMany xty_TooMany xm_LimitError_TooMany, kb_of (by decide +kernel) xv_LimitError, PySem.W.mg_of X G g_InvalidWork, X_InvalidWork, ⟨xga_InvalidWork, xgg_InvalidWork, xex_InvalidWork, xhd_InvalidWork⟩, xn_InvalidWork_position, xm_of xex_CallError xic_CallError xty_CallError xm_InvalidWork_CallError, xm_of xex_LimitError xic_LimitError xty_LimitError xm_InvalidWork_LimitError, xm_of xex_InvalidWork xic_InvalidWork xty_InvalidWork xm_InvalidWork_InvalidWork, xm_of xex_TooMany xic_TooMany xty_TooMany xm_InvalidWork_TooMany, ⟨ks_of xic_CallError xty_CallError xm_InvalidWork_CallError, xe_InvalidWork_CallError⟩, kb_of (by decide +kernel) xv_InvalidWork, PySem.W.mg_of X G g_TooMany, X_TooMany, ⟨xga_TooMany, xgg_TooMany, xex_TooMany, xhd_TooMany⟩, xn_TooMany_what, xn_TooMany_limit, xm_of xex_CallError xic_CallError xty_CallError xm_TooMany_CallError, xm_of xex_LimitError xic_LimitError xty_LimitError xm_TooMany_LimitError, xm_of xex_InvalidWork xic_InvalidWork xty_InvalidWork xm_TooMany_InvalidWork, xm_of xex_TooMany xic_TooMany xty_TooMany xm_TooMany_TooMany, ⟨ks_of xic_LimitError xty_LimitError xm_TooMany_LimitError, xe_TooMany_LimitError⟩, kb_of (by decide +kernel) xv_TooMany⟩
  have nil_ : Vals ([] : List V) [] := .nil
  have F_is_between := fun_mk (st := st_is_between) l_is_between c_is_between k_is_between
  have B_is_between := F_is_between.binds (ps := ["value", "least", "most"]) fun _ _ _ _ _ _ us hl => match us, hl with | [_, _, _], _ => rfl
  have h_c_is_between : Cal l.prog w K mg base 1 "is_between" (spBetw K) := ⟨_, _, _, ok_is_between F_is_between T , k_is_between, B_is_between, PySem.W.mg_of X G a_is_between⟩
  have F_is_word_of := fun_mk (st := st_is_word_of) l_is_word_of c_is_word_of k_is_word_of
  have B_is_word_of := F_is_word_of.binds (ps := ["value", "words"]) fun _ _ _ _ _ _ us hl => match us, hl with | [_, _], _ => rfl
  have h_c_is_word_of : Cal l.prog w K mg base 1 "is_word_of" (spWordOf K) := ⟨_, _, _, ok_is_word_of F_is_word_of T , k_is_word_of, B_is_word_of, PySem.W.mg_of X G a_is_word_of⟩
  have F_Fill_init : FunD K "__init__" "Fill.__init__" (defArgs st_Fill_init) (defBody st_Fill_init) (defScope st_Fill_init) [.str "free", .non] [] f_Fill_init _ := ⟨⟨_, _, _, _, _, _, _, _, _, _, rfl, l_Fill_init, c_Fill_init, .inr ⟨by simp, T0_Fill, _, itT_Fill.toList, nT_Fill, rfl, tO_Fill, by simp, vT_Fill⟩, .inl rfl⟩, k_Fill_init⟩
  have O_Fill_init := ok_Fill_init (P := l.prog) (w := w) (mg := mg) (base := base) F_Fill_init T h_c_is_word_of h_c_is_between
  have mk_Fill : Mk K ad.c_Fill f_Fill_init := ⟨mkFill, a_Fill_init, i_Fill_init, kcFill⟩
  obtain ⟨kd_h_m_Fill_2, kw_h_m_Fill_2, KD_h_m_Fill_2⟩ := F_Fill_init.binds1 (ps := ["self", "word", "extent"]) 3 2 (by simp) rfl fun _ _ _ _ _ _ _ us its h1 h2 => match us, its, h1, h2 with | [_, _, _], [_, _], _, _ => ⟨_, rfl, rfl⟩
  have h_m_Fill_2 : Mak l.prog w K mg base 3 "Fill" ad.c_Fill [] (spFillI ad) := ⟨_, _, _, _, fok_mono O_Fill_init (by decide), mk_Fill, PySem.W.mg_of X G g_Fill, KD_h_m_Fill_2, kw_h_m_Fill_2⟩
  obtain ⟨kd_h_m_Fill_0, kw_h_m_Fill_0, KD_h_m_Fill_0⟩ := F_Fill_init.binds1 (ps := ["self", "word", "extent"]) 1 0 (by simp) rfl fun _ _ _ _ _ _ _ us its h1 h2 => match us, its, h1, h2 with | [_], [_, _], _, _ => ⟨_, rfl, rfl⟩
  have h_m_Fill_0 : Mak l.prog w K mg base 3 "Fill" ad.c_Fill [.str "free", .non] (spFillI ad) := ⟨_, _, _, _, fok_mono O_Fill_init (by decide), mk_Fill, PySem.W.mg_of X G g_Fill, KD_h_m_Fill_0, kw_h_m_Fill_0⟩
  have F_Fill_word := fun_mk (st := st_Fill_word) l_Fill_word c_Fill_word k_Fill_word
  have B_Fill_word := F_Fill_word.binds (ps := ["self"]) fun _ _ _ _ _ _ us hl => match us, hl with | [_], _ => rfl
  have h_c_Fill_word : CalP l.prog w K mg base 1 ad.c_Fill "word" (spFGet ad fun w _ => .str w) := ⟨_, _, _, _, ok_Fill_word F_Fill_word T , cl_Fill, ⟨a_Fill_word, g_Fill_word, t_Fill_word, ⟨_, r_Fill_word⟩⟩, B_Fill_word⟩
  have F_Fill_extent := fun_mk (st := st_Fill_extent) l_Fill_extent c_Fill_extent k_Fill_extent
  have B_Fill_extent := F_Fill_extent.binds (ps := ["self"]) fun _ _ _ _ _ _ us hl => match us, hl with | [_], _ => rfl
  have h_c_Fill_extent : CalP l.prog w K mg base 1 ad.c_Fill "extent" (spFGet ad fun _ e => e) := ⟨_, _, _, _, ok_Fill_extent F_Fill_extent T , cl_Fill, ⟨a_Fill_extent, g_Fill_extent, t_Fill_extent, ⟨_, r_Fill_extent⟩⟩, B_Fill_extent⟩
  have F_Fill_is_free := fun_mk (st := st_Fill_is_free) l_Fill_is_free c_Fill_is_free k_Fill_is_free
  have B_Fill_is_free := F_Fill_is_free.binds (ps := ["self"]) fun _ _ _ _ _ _ us hl => match us, hl with | [_], _ => rfl
  have h_c_Fill_is_free : CalP l.prog w K mg base 1 ad.c_Fill "is_free" (spFGet ad fun _ e => .bl (decide (e = .non))) := ⟨_, _, _, _, ok_Fill_is_free F_Fill_is_free T , cl_Fill, ⟨a_Fill_is_free, g_Fill_is_free, t_Fill_is_free, ⟨_, r_Fill_is_free⟩⟩, B_Fill_is_free⟩
  have F_InvalidWork_init := fun_mk (st := st_InvalidWork_init) l_InvalidWork_init c_InvalidWork_init k_InvalidWork_init
  have B_InvalidWork_init := F_InvalidWork_init.binds (ps := ["self", "position"]) fun _ _ _ _ _ _ us hl => match us, hl with | [_, _], _ => rfl
  have h_e_InvalidWork : MakE l.prog w K mg base 1 "InvalidWork" ad.c_InvalidWork ["position"] := ⟨_, _, _, _, _, _, _, X_InvalidWork, a_InvalidWork_init, t_InvalidWork_init, ok_InvalidWork_init F_InvalidWork_init  T, B_InvalidWork_init, PySem.W.mg_of X G g_InvalidWork⟩
  have F_TooMany_init := fun_mk (st := st_TooMany_init) l_TooMany_init c_TooMany_init k_TooMany_init
  have B_TooMany_init := F_TooMany_init.binds (ps := ["self", "what", "limit"]) fun _ _ _ _ _ _ us hl => match us, hl with | [_, _, _], _ => rfl
  have h_e_TooMany : MakE l.prog w K mg base 1 "TooMany" ad.c_TooMany ["what", "limit"] := ⟨_, _, _, _, _, _, _, X_TooMany, a_TooMany_init, t_TooMany_init, ok_TooMany_init F_TooMany_init  T, B_TooMany_init, PySem.W.mg_of X G g_TooMany⟩
  have mk_Work : Mk K ad.c_Work f_Work_init := ⟨mkWork, a_Work_init, i_Work_init, kcWork⟩
  have h_m_Work : MakRE l.prog w K mg base 4 "Work" ad.c_Work (spWorkR K ad) := ⟨_, fnR_mono (r_Work_init l_Work_init c_Work_init h_c_Fill_is_free h_e_InvalidWork h_e_TooMany T) (by decide), mk_Work, PySem.W.mg_of X G g_Work⟩
  have F_plain_fills := fun_mk (st := st_plain_fills) l_plain_fills c_plain_fills k_plain_fills
  have B_plain_fills := F_plain_fills.binds (ps := ["fills"]) fun _ _ _ _ _ _ us hl => match us, hl with | [_], _ => rfl
  have h_c_plain_fills : Cal l.prog w K mg base 3 "plain_fills" (spPlainF ad) := ⟨_, _, _, ok_plain_fills F_plain_fills T h_c_Fill_extent h_c_Fill_word, k_plain_fills, B_plain_fills, PySem.W.mg_of X G a_plain_fills⟩
  have F_Work_len := fun_mk (st := st_Work_len) l_Work_len c_Work_len k_Work_len
  have B_Work_len := F_Work_len.binds (ps := ["self"]) fun _ _ _ _ _ _ us hl => match us, hl with | [_], _ => rfl
  have h_c_Work_len : CalS l.prog w K mg base 1 ad.c_Work "__len__" (spWLen ad) := ⟨_, ((ok_Work_len F_Work_len T ).raw B_Work_len nil_).imp fun vs H Q E h => by rw [List.append_nil]; exact h, a_Work_len, i_Work_len⟩
  have F_Work_fills := fun_mk (st := st_Work_fills) l_Work_fills c_Work_fills k_Work_fills
  have B_Work_fills := F_Work_fills.binds (ps := ["self"]) fun _ _ _ _ _ _ us hl => match us, hl with | [_], _ => rfl
  have h_c_Work_fills : CalM l.prog w K mg base 1 ad.c_Work "fills" (spWFills ad) := ⟨_, _, _, ok_Work_fills F_Work_fills T , cl_Work, ⟨a_Work_fills, i_Work_fills, k_Work_fills⟩, B_Work_fills⟩
  have F_Work_plain := fun_mk (st := st_Work_plain) l_Work_plain c_Work_plain k_Work_plain
  have B_Work_plain := F_Work_plain.binds (ps := ["self"]) fun _ _ _ _ _ _ us hl => match us, hl with | [_], _ => rfl
  have h_c_Work_plain : CalM l.prog w K mg base 6 ad.c_Work "plain" (spWPlain ad) := ⟨_, _, _, ok_Work_plain F_Work_plain T h_c_plain_fills h_m_Work, cl_Work, ⟨a_Work_plain, i_Work_plain, k_Work_plain⟩, B_Work_plain⟩
  have F_Fill_eq := fun_mk (st := st_Fill_eq) l_Fill_eq c_Fill_eq k_Fill_eq
  have B_Fill_eq := F_Fill_eq.binds (ps := ["self", "other"]) fun _ _ _ _ _ _ us hl => match us, hl with | [_, _], _ => rfl
  have h_c_Fill_eq : CalS l.prog w K mg base 1 ad.c_Fill "__eq__" (spFEq ad) := ⟨_, ((ok_Fill_eq F_Fill_eq T ).raw B_Fill_eq nil_).imp fun vs H Q E h => by rw [List.append_nil]; exact h, a_Fill_eq, i_Fill_eq⟩
  have F_Work_add := fun_mk (st := st_Work_add) l_Work_add c_Work_add k_Work_add
  have B_Work_add := F_Work_add.binds (ps := ["self", "other"]) fun _ _ _ _ _ _ us hl => match us, hl with | [_, _], _ => rfl
  have h_c_Work_add : CalSE l.prog w K mg base 6 ad.c_Work "__add__" (spWAdd K ad) := ⟨_, ((ok_Work_add F_Work_add T h_c_Fill_is_free h_e_InvalidWork h_m_Work).raw B_Work_add nil_).imp fun vs H Q E h => by rw [List.append_nil]; exact h, a_Work_add, i_Work_add⟩
  have F_filled := fun_mk (st := st_filled) l_filled c_filled k_filled
  have B_filled := F_filled.binds (ps := ["fills", "row", "width"]) fun _ _ _ _ _ _ us hl => match us, hl with | [_, _, _], _ => rfl
  have h_c_filled : Cal l.prog w K mg base 3 "filled" (spFilled ad) := ⟨_, _, _, ok_filled F_filled T h_c_Fill_extent h_c_Fill_word, k_filled, B_filled, PySem.W.mg_of X G a_filled⟩
  have F_is_bit := fun_mk (st := st_is_bit) l_is_bit c_is_bit k_is_bit
  have B_is_bit := F_is_bit.binds (ps := ["value"]) fun _ _ _ _ _ _ us hl => match us, hl with | [_], _ => rfl
  have h_c_is_bit : Cal l.prog w K mg base 2 "is_bit" (spBit K) := ⟨_, _, _, ok_is_bit F_is_bit T h_c_is_between, k_is_bit, B_is_bit, PySem.W.mg_of X G a_is_bit⟩
  have F_is_list := fun_mk (st := st_is_list) l_is_list c_is_list k_is_list
  have B_is_list := F_is_list.binds (ps := ["value"]) fun _ _ _ _ _ _ us hl => match us, hl with | [_], _ => rfl
  have h_c_is_list : Cal l.prog w K mg base 1 "is_list" (spIsList K) := ⟨_, _, _, ok_is_list F_is_list T , k_is_list, B_is_list, PySem.W.mg_of X G a_is_list⟩
  have F_Work_call := fun_mk (st := st_Work_call) l_Work_call c_Work_call k_Work_call
  have B_Work_call := F_Work_call.binds (ps := ["self", "row", "width"]) fun _ _ _ _ _ _ us hl => match us, hl with | [_, _, _], _ => rfl
  have h_c_Work_call : CalO l.prog w K mg base 4 ad.c_Work (spWCall ad) := ⟨_, ((ok_Work_call F_Work_call T h_c_is_list h_c_is_bit h_c_is_between h_c_filled).raw B_Work_call nil_).imp fun vs H Q E h => by rw [List.append_nil]; exact h, ⟨a_Work_call, i_Work_call, n_Work_call⟩⟩
  have F_Work_eq := fun_mk (st := st_Work_eq) l_Work_eq c_Work_eq k_Work_eq
  have B_Work_eq := F_Work_eq.binds (ps := ["self", "other"]) fun _ _ _ _ _ _ us hl => match us, hl with | [_, _], _ => rfl
  have h_c_Work_eq : CalS l.prog w K mg base 3 ad.c_Work "__eq__" (spWEq ad) := ⟨_, ((ok_Work_eq F_Work_eq T h_c_Fill_eq).raw B_Work_eq nil_).imp fun vs H Q E h => by rw [List.append_nil]; exact h, a_Work_eq, i_Work_eq⟩
  have F_Work_is_like := fun_mk (st := st_Work_is_like) l_Work_is_like c_Work_is_like k_Work_is_like
  have B_Work_is_like := F_Work_is_like.binds (ps := ["self", "other"]) fun _ _ _ _ _ _ us hl => match us, hl with | [_, _], _ => rfl
  have h_c_Work_is_like : CalM l.prog w K mg base 7 ad.c_Work "is_like" (spWLike ad) := ⟨_, _, _, ok_Work_is_like F_Work_is_like T h_c_Work_plain h_c_Work_eq, cl_Work, ⟨a_Work_is_like, i_Work_is_like, k_Work_is_like⟩, B_Work_is_like⟩
  have F_l_draw := fun_mk (st := st_l_draw) l_l_draw c_l_draw k_l_draw
  have B_l_draw := F_l_draw.binds (ps := ["_law_pot_here", "_law_size"]) fun _ _ _ _ _ _ us hl => match us, hl with | [_, _], _ => rfl
  have h_c_l_draw : Cal l.prog w K mg base 1 "_law_draw" spDraw := ⟨_, _, _, ok_l_draw F_l_draw T , k_l_draw, B_l_draw, PySem.W.mg_of X G a_l_draw⟩
  have F_l_pick := fun_mk (st := st_l_pick) l_l_pick c_l_pick k_l_pick
  have B_l_pick := F_l_pick.binds (ps := ["_law_pot_here", "_law_some"]) fun _ _ _ _ _ _ us hl => match us, hl with | [_, _], _ => rfl
  have h_c_l_pick : Cal l.prog w K mg base 2 "_law_pick" (spPick1 K) := ⟨_, _, _, ok_l_pick F_l_pick T h_c_l_draw, k_l_pick, B_l_pick, PySem.W.mg_of X G a_l_pick⟩
  have F_l_pot := fun_mk (st := st_l_pot) l_l_pot c_l_pot k_l_pot
  have B_l_pot := F_l_pot.binds (ps := ["_law_script", "_law_k"]) fun _ _ _ _ _ _ us hl => match us, hl with | [_, _], _ => rfl
  have h_c_l_pot : Cal l.prog w K mg base 1 "_law_pot" (spPot K) := ⟨_, _, _, ok_l_pot F_l_pot T , k_l_pot, B_l_pot, PySem.W.mg_of X G a_l_pot⟩
  have F_l_made := fun_mk (st := st_l_made) l_l_made c_l_made k_l_made
  have B_l_made := F_l_made.binds (ps := ["_law_rows_now"]) fun _ _ _ _ _ _ us hl => match us, hl with | [_], _ => rfl
  have h_c_l_made : Cal l.prog w K mg base 7 "_law_made" (spMade ad) := ⟨_, _, _, ok_l_made F_l_made T h_m_Work h_m_Fill_2 h_c_Work_add, k_l_made, B_l_made, PySem.W.mg_of X G a_l_made⟩
  have F_l_rows := fun_mk (st := st_l_rows) l_l_rows c_l_rows k_l_rows
  have B_l_rows := F_l_rows.binds (ps := ["_law_pot_here", "_law_size"]) fun _ _ _ _ _ _ us hl => match us, hl with | [_, _], _ => rfl
  have h_c_l_rows : Cal l.prog w K mg base 3 "_law_rows" (spRows) := ⟨_, _, _, ok_l_rows F_l_rows T h_c_l_draw h_c_l_pick, k_l_rows, B_l_rows, PySem.W.mg_of X G a_l_rows⟩
  have F_l_last := fun_mk (st := st_l_last) l_l_last c_l_last k_l_last
  have B_l_last := F_l_last.binds (ps := ["_law_rows_now"]) fun _ _ _ _ _ _ us hl => match us, hl with | [_], _ => rfl
  have h_c_l_last : Cal l.prog w K mg base 1 "_law_last" (spLast) := ⟨_, _, _, ok_l_last F_l_last T , k_l_last, B_l_last, PySem.W.mg_of X G a_l_last⟩
  have F_l_plain := fun_mk (st := st_l_plain) l_l_plain c_l_plain k_l_plain
  have B_l_plain := F_l_plain.binds (ps := ["_law_rows_now"]) fun _ _ _ _ _ _ us hl => match us, hl with | [_], _ => rfl
  have h_c_l_plain : Cal l.prog w K mg base 2 "_law_plain" (spLPlain) := ⟨_, _, _, ok_l_plain F_l_plain T h_c_l_last, k_l_plain, B_l_plain, PySem.W.mg_of X G a_l_plain⟩
  have F_l_parts := fun_mk (st := st_l_parts) l_l_parts c_l_parts k_l_parts
  have B_l_parts := F_l_parts.binds (ps := ["_law_made_here"]) fun _ _ _ _ _ _ us hl => match us, hl with | [_], _ => rfl
  have h_c_l_parts : Cal l.prog w K mg base 3 "_law_parts" (spParts ad) := ⟨_, _, _, ok_l_parts F_l_parts T h_c_Work_fills h_c_Fill_word h_c_Fill_extent, k_l_parts, B_l_parts, PySem.W.mg_of X G a_l_parts⟩
  have F_l_row := fun_mk (st := st_l_row) l_l_row c_l_row k_l_row
  have B_l_row := F_l_row.binds (ps := ["_law_pot_here"]) fun _ _ _ _ _ _ us hl => match us, hl with | [_], _ => rfl
  have h_c_l_row : Cal l.prog w K mg base 3 "_law_row" (spLRow) := ⟨_, _, _, ok_l_row F_l_row T h_c_l_pick, k_l_row, B_l_row, PySem.W.mg_of X G a_l_row⟩
  have F_l_like := fun_mk (st := st_l_like) l_l_like c_l_like k_l_like
  have B_l_like := F_l_like.binds (ps := ["_law_pot_here", "_law_rows_now"]) fun _ _ _ _ _ _ us hl => match us, hl with | [_, _], _ => rfl
  have h_c_l_like : Cal l.prog w K mg base 3 "_law_like" (spLLike) := ⟨_, _, _, ok_l_like F_l_like T h_c_l_draw h_c_l_pick, k_l_like, B_l_like, PySem.W.mg_of X G a_l_like⟩
  have F_l_bent := fun_mk (st := st_l_bent) l_l_bent c_l_bent k_l_bent
  have B_l_bent := F_l_bent.binds (ps := ["_law_pot_here", "_law_rows_now"]) fun _ _ _ _ _ _ us hl => match us, hl with | [_, _], _ => rfl
  have h_c_l_bent : Cal l.prog w K mg base 2 "_law_bent" (spLLike) := ⟨_, _, _, ok_l_bent F_l_bent T h_c_l_draw, k_l_bent, B_l_bent, PySem.W.mg_of X G a_l_bent⟩
  have F_l_row_parts := fun_mk (st := st_l_row_parts) l_l_row_parts c_l_row_parts k_l_row_parts
  have B_l_row_parts := F_l_row_parts.binds (ps := ["_law_made_here", "_law_mate"]) fun _ _ _ _ _ _ us hl => match us, hl with | [_, _], _ => rfl
  have h_c_l_row_parts : CalG l.prog w K mg base 5 "_law_row_parts" (spRowParts ad) := ⟨_, _, _, ok_l_row_parts F_l_row_parts T h_c_Work_call, k_l_row_parts, B_l_row_parts, PySem.W.mg_of X G a_l_row_parts⟩
  have F_l_plain_right := fun_mk (st := st_l_plain_right) l_l_plain_right c_l_plain_right k_l_plain_right
  have B_l_plain_right := F_l_plain_right.binds (ps := ["_law_pot_here", "_law_made_here", "_law_rows_now"]) fun _ _ _ _ _ _ us hl => match us, hl with | [_, _, _], _ => rfl
  have h_c_l_plain_right : CalG l.prog w K mg base 8 "_law_plain_right" (spPlainRight ad) := ⟨_, _, _, ok_l_plain_right F_l_plain_right T h_c_Work_plain h_c_l_plain h_c_l_parts h_c_l_row h_c_l_draw h_c_Work_call h_c_Work_is_like h_c_Work_eq, k_l_plain_right, B_l_plain_right, PySem.W.mg_of X G a_l_plain_right⟩
  have h_k_Work_is_like_other : CalMK l.prog w K mg base 7 ad.c_Work "is_like" ["other"] gKC (spWLike ad) := ⟨_, _, _, _, ok_Work_is_like F_Work_is_like T h_c_Work_plain h_c_Work_eq, cl_Work, ⟨a_Work_is_like, i_Work_is_like, k_Work_is_like⟩, ⟨fun s us ws _ h1 h2 => match us, ws, h1, h2 with | [_], [_], _, _ => .of_eq rfl, fun r1 r2 => r1.append r2⟩⟩
  have F_l_pair_right := fun_mk (st := st_l_pair_right) l_l_pair_right c_l_pair_right k_l_pair_right
  have B_l_pair_right := F_l_pair_right.binds (ps := ["_law_pot_here", "_law_made_here", "_law_rows_now", "_law_mates"]) fun _ _ _ _ _ _ us hl => match us, hl with | [_, _, _, _], _ => rfl
  have h_c_l_pair_right : CalG l.prog w K mg base 9 "_law_pair_right" (spPairRight ad) := ⟨_, _, _, ok_l_pair_right F_l_pair_right T h_c_l_made h_c_l_last h_c_Work_is_like h_k_Work_is_like_other h_c_Work_plain h_c_Work_eq h_c_l_plain_right h_c_l_row_parts, k_l_pair_right, B_l_pair_right, PySem.W.mg_of X G a_l_pair_right⟩
  have F_l_told := fun_mk (st := st_l_told) l_l_told c_l_told k_l_told
  have B_l_told := F_l_told.binds (ps := ["_law_deed"]) fun _ _ _ _ _ _ us hl => match us, hl with | [_], _ => rfl
  have h_c_l_told : CalLV l.prog w K mg base 1 "_law_told" "_law_deed" (TT14 ad) := ⟨_, _, _, _, _, _, _, _, _, _, _, _, _, _, _, PySem.W.mg_of X G a_l_told, k_l_told, l_l_told, c_l_told, B_l_told, sc_l_told, rfl, .inl rfl, gv_l_told  T⟩
  have F_l_long := fun_mk (st := st_l_long) l_l_long c_l_long k_l_long
  have B_l_long := F_l_long.binds (ps := ["_law_f", "_law_more"]) fun _ _ _ _ _ _ us hl => match us, hl with | [_, _], _ => rfl
  have h_c_l_long : CalE l.prog w K mg base 6 "_law_long" (spLong K ad) := ⟨_, _, _, ok_l_long F_l_long T h_m_Work, k_l_long, B_l_long, PySem.W.mg_of X G a_l_long⟩
  have F_l_great_right : FunC K "_law_great_right" "_law_great_right" st_l_great_right f_l_great_right _ cM := ⟨⟨_, _, _, _, _, _, _, _, rfl, l_l_great_right, c_l_great_right⟩, k_l_great_right⟩
  have B_l_great_right := F_l_great_right.fun.binds (ps := ["_law_pot_here"]) fun _ _ _ _ _ _ us hl => match us, hl with | [_], _ => rfl
  have h_c_l_great_right : CalG l.prog w K mg base 9 "_law_great_right" (spGreat PM) := ⟨_, _, _, ok_l_great_right F_l_great_right TB_PM h_c_l_rows h_m_Work h_c_l_made h_c_Work_add h_c_Work_len h_c_l_parts h_m_Fill_0 h_c_l_plain_right h_m_Fill_2 h_c_l_long h_c_l_told h_c_l_pick T, k_l_great_right, B_l_great_right, PySem.W.mg_of X G a_l_great_right⟩
  have F_l_right := fun_mk (st := st_l_right) l_l_right c_l_right k_l_right
  have B_l_right := F_l_right.binds (ps := ["_law_pot_here"]) fun _ _ _ _ _ _ us hl => match us, hl with | [_], _ => rfl
  have h_c_l_right : CalG l.prog w K mg base 10 "_law_right" (spRight ad) := ⟨_, _, _, ok_l_right F_l_right T h_c_l_rows h_c_l_draw h_c_l_made h_c_l_plain_right h_c_l_pair_right h_c_l_bent h_c_l_like, k_l_right, B_l_right, PySem.W.mg_of X G a_l_right⟩
  have F_law := fun_mk (st := st_law) l_law c_law k_law
  have B_law := F_law.binds (ps := ["_law_script"]) fun _ _ _ _ _ _ us hl => match us, hl with | [_], _ => rfl
  exact ok_law F_law T h_c_l_pot h_c_l_right h_c_l_great_right
theorem all_mk {l : PySem.W.OpenLaw} {w : World} {K : PySem.W.Frag} {h : Heap} {mg : Str → Option Value} {PM : Addr} {c_CallError zz_c_InvalidNumber zz_c_InvalidFill c_InvalidWork zz_c_InvalidBits c_LimitError c_TooMany c_Fill c_Work : Addr} {f_law fa : Addr} {xN_CallError xN_LimitError xN_InvalidWork xN_TooMany f_is_between f_is_word_of f_Fill_init T0_Fill p_Fill_word f_Fill_word p_Fill_extent f_Fill_extent p_Fill_is_free f_Fill_is_free f_InvalidWork_init f_TooMany_init f_Work_init f_plain_fills f_Work_len f_Work_fills f_Work_plain f_Fill_eq f_Work_add f_filled f_is_bit f_is_list f_Work_call f_Work_eq f_Work_is_like f_l_draw f_l_pick f_l_pot f_l_made f_l_rows f_l_last f_l_plain f_l_parts f_l_row f_l_like f_l_bent f_l_row_parts f_l_plain_right f_l_pair_right f_l_told f_l_long cM f_l_great_right f_l_right : Addr} {xdd_CallError xdd_LimitError xdd_InvalidWork xdd_TooMany od_is_between an_is_between od_is_word_of an_is_word_of od_Fill_init an_Fill_init odT_Fill od_Fill_word an_Fill_word od_Fill_extent an_Fill_extent od_Fill_is_free an_Fill_is_free od_InvalidWork_init an_InvalidWork_init od_TooMany_init an_TooMany_init od_Work_init an_Work_init od_plain_fills an_plain_fills od_Work_len an_Work_len od_Work_fills an_Work_fills od_Work_plain an_Work_plain od_Fill_eq an_Fill_eq od_Work_add an_Work_add od_filled an_filled od_is_bit an_is_bit od_is_list an_is_list od_Work_call an_Work_call od_Work_eq an_Work_eq od_Work_is_like an_Work_is_like od_l_draw an_l_draw od_l_pick an_l_pick od_l_pot an_l_pot od_l_made an_l_made od_l_rows an_l_rows od_l_last an_l_last od_l_plain an_l_plain od_l_parts an_l_parts od_l_row an_l_row od_l_like an_l_like od_l_bent an_l_bent od_l_row_parts an_l_row_parts od_l_plain_right an_l_plain_right od_l_pair_right an_l_pair_right od_l_told an_l_told od_l_long an_l_long od_l_great_right an_l_great_right od_l_right an_l_right od_law an_law : Option Addr} {sl_is_between sl_is_word_of sl_Fill_init slT_Fill sl_Fill_word sl_Fill_extent sl_Fill_is_free sl_InvalidWork_init sl_TooMany_init sl_Work_init sl_plain_fills sl_Work_len sl_Work_fills sl_Work_plain sl_Fill_eq sl_Work_add sl_filled sl_is_bit sl_is_list sl_Work_call sl_Work_eq sl_Work_is_like sl_l_draw sl_l_pick sl_l_pot sl_l_made sl_l_rows sl_l_last sl_l_plain sl_l_parts sl_l_row sl_l_like sl_l_bent sl_l_row_parts sl_l_plain_right sl_l_pair_right sl_l_told sl_l_long sl_l_great_right sl_l_right sl_law : Array (Option Value)} {u_FREE u_ZEROS u_SIGN u_LEAST_EXTENT u_LEAST_WIDTH u_MOST_BITS u_MOST_FILLS oc_is_between dc_is_between pm_is_between cd_is_between ct_is_between kV_is_between oc_is_word_of dc_is_word_of pm_is_word_of cd_is_word_of ct_is_word_of kV_is_word_of oc_Fill_init dc_Fill_init pm_Fill_init cd_Fill_init ct_Fill_init kV_Fill_init ocT_Fill oc_Fill_word dc_Fill_word pm_Fill_word cd_Fill_word ct_Fill_word kV_Fill_word oc_Fill_extent dc_Fill_extent pm_Fill_extent cd_Fill_extent ct_Fill_extent kV_Fill_extent oc_Fill_is_free dc_Fill_is_free pm_Fill_is_free cd_Fill_is_free ct_Fill_is_free kV_Fill_is_free oc_InvalidWork_init dc_InvalidWork_init pm_InvalidWork_init cd_InvalidWork_init ct_InvalidWork_init kV_InvalidWork_init oc_TooMany_init dc_TooMany_init pm_TooMany_init cd_TooMany_init ct_TooMany_init kV_TooMany_init oc_Work_init dc_Work_init pm_Work_init cd_Work_init ct_Work_init kV_Work_init oc_plain_fills dc_plain_fills pm_plain_fills cd_plain_fills ct_plain_fills kV_plain_fills oc_Work_len dc_Work_len pm_Work_len cd_Work_len ct_Work_len kV_Work_len oc_Work_fills dc_Work_fills pm_Work_fills cd_Work_fills ct_Work_fills kV_Work_fills oc_Work_plain dc_Work_plain pm_Work_plain cd_Work_plain ct_Work_plain kV_Work_plain oc_Fill_eq dc_Fill_eq pm_Fill_eq cd_Fill_eq ct_Fill_eq kV_Fill_eq oc_Work_add dc_Work_add pm_Work_add cd_Work_add ct_Work_add kV_Work_add oc_filled dc_filled pm_filled cd_filled ct_filled kV_filled oc_is_bit dc_is_bit pm_is_bit cd_is_bit ct_is_bit kV_is_bit oc_is_list dc_is_list pm_is_list cd_is_list ct_is_list kV_is_list oc_Work_call dc_Work_call pm_Work_call cd_Work_call ct_Work_call kV_Work_call oc_Work_eq dc_Work_eq pm_Work_eq cd_Work_eq ct_Work_eq kV_Work_eq oc_Work_is_like dc_Work_is_like pm_Work_is_like cd_Work_is_like ct_Work_is_like kV_Work_is_like oc_l_draw dc_l_draw pm_l_draw cd_l_draw ct_l_draw kV_l_draw oc_l_pick dc_l_pick pm_l_pick cd_l_pick ct_l_pick kV_l_pick oc_l_pot dc_l_pot pm_l_pot cd_l_pot ct_l_pot kV_l_pot oc_l_made dc_l_made pm_l_made cd_l_made ct_l_made kV_l_made oc_l_rows dc_l_rows pm_l_rows cd_l_rows ct_l_rows kV_l_rows oc_l_last dc_l_last pm_l_last cd_l_last ct_l_last kV_l_last oc_l_plain dc_l_plain pm_l_plain cd_l_plain ct_l_plain kV_l_plain oc_l_parts dc_l_parts pm_l_parts cd_l_parts ct_l_parts kV_l_parts oc_l_row dc_l_row pm_l_row cd_l_row ct_l_row kV_l_row oc_l_like dc_l_like pm_l_like cd_l_like ct_l_like kV_l_like oc_l_bent dc_l_bent pm_l_bent cd_l_bent ct_l_bent kV_l_bent oc_l_row_parts dc_l_row_parts pm_l_row_parts cd_l_row_parts ct_l_row_parts kV_l_row_parts oc_l_plain_right dc_l_plain_right pm_l_plain_right cd_l_plain_right ct_l_plain_right kV_l_plain_right oc_l_pair_right dc_l_pair_right pm_l_pair_right cd_l_pair_right ct_l_pair_right kV_l_pair_right oc_l_told dc_l_told pm_l_told cd_l_told ct_l_told kV_l_told oc_l_long dc_l_long pm_l_long cd_l_long ct_l_long kV_l_long oc_l_great_right dc_l_great_right pm_l_great_right ct_l_great_right kV_l_great_right oc_l_right dc_l_right pm_l_right cd_l_right ct_l_right kV_l_right oc_law dc_law pm_law cd_law ct_law kV_law : Value} {xbs_CallError xbm_CallError xsub_CallError xbs_LimitError xbm_LimitError xsub_LimitError xbs_InvalidWork xbm_InvalidWork xsub_InvalidWork xbs_TooMany xbm_TooMany xsub_TooMany re_Fill_word re_Fill_extent re_Fill_is_free : List Value} {itT_Fill : Array Value} {nT_Fill : Nat} {cldFill : ClassData} {xk0_CallError xk1_CallError xk2_CallError xk3_CallError xk5_CallError xk0_LimitError xk1_LimitError xk2_LimitError xk3_LimitError xk5_LimitError xk0_InvalidWork xk1_InvalidWork xk2_InvalidWork xk3_InvalidWork xk5_InvalidWork xk0_TooMany xk1_TooMany xk2_TooMany xk3_TooMany xk5_TooMany fo_str ro_str go_NoneType go_tuple go_str go_int go_list go_bool go_dict gr_NoneType gr_tuple gr_str gr_int gr_list gr_bool gr_dict : Option Value} {xnm_CallError xq_CallError xnm_LimitError xq_LimitError xnm_InvalidWork xq_InvalidWork xnm_TooMany xq_TooMany : Str} {xsn_CallError xsn_LimitError xsn_InvalidWork xsn_TooMany : List Str} {xab_CallError xab_LimitError xab_InvalidWork xab_TooMany : Bool} {xcol_CallError xcol_LimitError xcol_InvalidWork xcol_TooMany : Option Bool} (X : K.In h) (G : h.Ns mainGlobals mg) (hfa : mg "law" = some (.ref fa)) (hP_PM : h.get? PM = some { cls := .none, data := .fields #[] })
    (cn : PySem.W.specialIn K (.builtin "object.__class__") "__get__" = some (some (.builtin "getset_descriptor.__get__")))
    (ctk : PySem.W.takesIn K (.builtin "object.__class__") = some true)
    (g_Fill : PySem.W.nsIn K mainGlobals "Fill" = some (some (.ref c_Fill)))
    (pgFill : PySem.W.plainGet K c_Fill Str.empty = true)
    (hdFill : PySem.W.hasDictIn K c_Fill = true)
    (poFill : PySem.W.plainOver K c_Fill = true)
    (saFill : PySem.W.findIn K (.ref c_Fill) "__setattr__" = some (some (.builtin "object.__setattr__")))
    (caFill : PySem.W.findIn K (.ref c_Fill) "__class__" = some (some (.builtin "object.__class__")))
    (cmFill : PySem.W.mroIn K c_Fill (.type "object") = some true)
    (icFill : PySem.W.isClsIn K c_Fill = true)
    (tyFill : PySem.W.typeIn K (.ref c_Fill) = some (.type "type"))
    (mkFill : PySem.W.makesIn K c_Fill = true)
    (kcFill : PySem.W.keepIn K (.ref c_Fill) = true)
    (suFill_NoneType : PySem.W.subIn K (.type "NoneType") (.ref c_Fill) = some false)
    (suFill_tuple : PySem.W.subIn K (.type "tuple") (.ref c_Fill) = some false)
    (suFill_str : PySem.W.subIn K (.type "str") (.ref c_Fill) = some false)
    (suFill_int : PySem.W.subIn K (.type "int") (.ref c_Fill) = some false)
    (suFill_list : PySem.W.subIn K (.type "list") (.ref c_Fill) = some false)
    (suFill_bool : PySem.W.subIn K (.type "bool") (.ref c_Fill) = some false)
    (suFill_dict : PySem.W.subIn K (.type "dict") (.ref c_Fill) = some false)
    (sxFill_str : PySem.W.subIn K (.ref c_Fill) (.type "str") = some false)
    (sxFill_int : PySem.W.subIn K (.ref c_Fill) (.type "int") = some false)
    (sxFill_bool : PySem.W.subIn K (.ref c_Fill) (.type "bool") = some false)
    (neFill : PySem.W.findIn K (.ref c_Fill) "__ne__" = some (some (.builtin "object.__ne__")))
    (nFill_word : PySem.W.findIn K (.ref c_Fill) "_word" = some none)
    (nFill_extent : PySem.W.findIn K (.ref c_Fill) "_extent" = some none)
    (clFill : PySem.W.clsIn K c_Fill = some cldFill)
    (mrFill : cldFill.mro = [.ref c_Fill, .type "object"])
    (cadFill : PySem.W.findIn K (.ref c_Fill) "__add__" = some none)
    (crdFill : PySem.W.findIn K (.ref c_Fill) "__radd__" = some none)
    (oad : PySem.W.findIn K (.type "object") "__add__" = some none)
    (ord_ : PySem.W.findIn K (.type "object") "__radd__" = some none)
    (g_Work : PySem.W.nsIn K mainGlobals "Work" = some (some (.ref c_Work)))
    (pgWork : PySem.W.plainGet K c_Work Str.empty = true)
    (hdWork : PySem.W.hasDictIn K c_Work = true)
    (poWork : PySem.W.plainOver K c_Work = true)
    (saWork : PySem.W.findIn K (.ref c_Work) "__setattr__" = some (some (.builtin "object.__setattr__")))
    (caWork : PySem.W.findIn K (.ref c_Work) "__class__" = some (some (.builtin "object.__class__")))
    (cmWork : PySem.W.mroIn K c_Work (.type "object") = some true)
    (icWork : PySem.W.isClsIn K c_Work = true)
    (tyWork : PySem.W.typeIn K (.ref c_Work) = some (.type "type"))
    (mkWork : PySem.W.makesIn K c_Work = true)
    (kcWork : PySem.W.keepIn K (.ref c_Work) = true)
    (suWork_NoneType : PySem.W.subIn K (.type "NoneType") (.ref c_Work) = some false)
    (suWork_tuple : PySem.W.subIn K (.type "tuple") (.ref c_Work) = some false)
    (suWork_str : PySem.W.subIn K (.type "str") (.ref c_Work) = some false)
    (suWork_int : PySem.W.subIn K (.type "int") (.ref c_Work) = some false)
    (suWork_list : PySem.W.subIn K (.type "list") (.ref c_Work) = some false)
    (suWork_bool : PySem.W.subIn K (.type "bool") (.ref c_Work) = some false)
    (suWork_dict : PySem.W.subIn K (.type "dict") (.ref c_Work) = some false)
    (sxWork_str : PySem.W.subIn K (.ref c_Work) (.type "str") = some false)
    (sxWork_int : PySem.W.subIn K (.ref c_Work) (.type "int") = some false)
    (sxWork_bool : PySem.W.subIn K (.ref c_Work) (.type "bool") = some false)
    (neWork : PySem.W.findIn K (.ref c_Work) "__ne__" = some (some (.builtin "object.__ne__")))
    (nWork_fills : PySem.W.findIn K (.ref c_Work) "_fills" = some none)
    (sfWork : PySem.W.selfFirst K c_Work = true)
    (sta : PySem.W.findIn K (.type "str") "__add__" = some fo_str)
    (str_ : PySem.W.findIn K (.type "str") "__radd__" = some ro_str)
    (nrWork : PySem.W.findIn K (.ref c_Work) "__radd__" = some none)
    (ta_NoneType : PySem.W.findIn K (.type "NoneType") "__add__" = some go_NoneType)
    (tr_NoneType : PySem.W.findIn K (.type "NoneType") "__radd__" = some gr_NoneType)
    (ta_tuple : PySem.W.findIn K (.type "tuple") "__add__" = some go_tuple)
    (tr_tuple : PySem.W.findIn K (.type "tuple") "__radd__" = some gr_tuple)
    (ta_str : PySem.W.findIn K (.type "str") "__add__" = some go_str)
    (tr_str : PySem.W.findIn K (.type "str") "__radd__" = some gr_str)
    (ta_int : PySem.W.findIn K (.type "int") "__add__" = some go_int)
    (tr_int : PySem.W.findIn K (.type "int") "__radd__" = some gr_int)
    (ta_list : PySem.W.findIn K (.type "list") "__add__" = some go_list)
    (tr_list : PySem.W.findIn K (.type "list") "__radd__" = some gr_list)
    (ta_bool : PySem.W.findIn K (.type "bool") "__add__" = some go_bool)
    (tr_bool : PySem.W.findIn K (.type "bool") "__radd__" = some gr_bool)
    (ta_dict : PySem.W.findIn K (.type "dict") "__add__" = some go_dict)
    (tr_dict : PySem.W.findIn K (.type "dict") "__radd__" = some gr_dict)
    (sxWork_list : PySem.W.subIn K (.ref c_Work) (.type "list") = some false)
    (sxWork_tuple : PySem.W.subIn K (.ref c_Work) (.type "tuple") = some false)
    (ga_FREE : PySem.W.nsIn K mainGlobals "FREE" = some (some u_FREE))
    (v_FREE : RelV (.str "free") u_FREE)
    (ga_ZEROS : PySem.W.nsIn K mainGlobals "ZEROS" = some (some u_ZEROS))
    (v_ZEROS : RelV (.str "zeros") u_ZEROS)
    (ga_SIGN : PySem.W.nsIn K mainGlobals "SIGN" = some (some u_SIGN))
    (v_SIGN : RelV (.str "sign") u_SIGN)
    (ga_LEAST_EXTENT : PySem.W.nsIn K mainGlobals "LEAST_EXTENT" = some (some u_LEAST_EXTENT))
    (v_LEAST_EXTENT : RelV (.int 3) u_LEAST_EXTENT)
    (ga_LEAST_WIDTH : PySem.W.nsIn K mainGlobals "LEAST_WIDTH" = some (some u_LEAST_WIDTH))
    (v_LEAST_WIDTH : RelV (.int 2) u_LEAST_WIDTH)
    (ga_MOST_BITS : PySem.W.nsIn K mainGlobals "MOST_BITS" = some (some u_MOST_BITS))
    (v_MOST_BITS : RelV (.int 128) u_MOST_BITS)
    (ga_MOST_FILLS : PySem.W.nsIn K mainGlobals "MOST_FILLS" = some (some u_MOST_FILLS))
    (v_MOST_FILLS : RelV (.int 126) u_MOST_FILLS)
    (b_ArithmeticError : PySem.W.nsIn K mainGlobals "ArithmeticError" = some none)
    (b_ValueError : PySem.W.nsIn K mainGlobals "ValueError" = some none)
    (b_abs : PySem.W.nsIn K mainGlobals "abs" = some none)
    (b_bool : PySem.W.nsIn K mainGlobals "bool" = some none)
    (b_divmod : PySem.W.nsIn K mainGlobals "divmod" = some none)
    (b_enumerate : PySem.W.nsIn K mainGlobals "enumerate" = some none)
    (b_int : PySem.W.nsIn K mainGlobals "int" = some none)
    (b_isinstance : PySem.W.nsIn K mainGlobals "isinstance" = some none)
    (b_len : PySem.W.nsIn K mainGlobals "len" = some none)
    (b_list : PySem.W.nsIn K mainGlobals "list" = some none)
    (b_max : PySem.W.nsIn K mainGlobals "max" = some none)
    (b_min : PySem.W.nsIn K mainGlobals "min" = some none)
    (b_property : PySem.W.nsIn K mainGlobals "property" = some none)
    (b_range : PySem.W.nsIn K mainGlobals "range" = some none)
    (b_repr : PySem.W.nsIn K mainGlobals "repr" = some none)
    (b_staticmethod : PySem.W.nsIn K mainGlobals "staticmethod" = some none)
    (b_str : PySem.W.nsIn K mainGlobals "str" = some none)
    (b_tuple : PySem.W.nsIn K mainGlobals "tuple" = some none)
    (g_CallError : PySem.W.nsIn K mainGlobals "CallError" = some (some (.ref c_CallError)))
    (xl_CallError : K.lookup c_CallError = some (excClassObj xnm_CallError xq_CallError c_CallError xN_CallError xbs_CallError xbm_CallError true xsn_CallError xsub_CallError xab_CallError xcol_CallError xdd_CallError xk0_CallError xk1_CallError xk2_CallError xk3_CallError xk5_CallError "ValueError.__new__"))
    (xt_CallError : PySem.W.excTail [.type "ValueError", .type "Exception", .type "BaseException", .type "object"] xbm_CallError = true)
    (xsa_CallError : PySem.W.findIn K (.ref c_CallError) "__setattr__" = some (some (.builtin "object.__setattr__")))
    (xex_CallError : PySem.W.subIn K (.ref c_CallError) (.type "BaseException") = some true)
    (xty_CallError : PySem.W.typeIn K (.ref c_CallError) = some (.type "type"))
    (xkc_CallError : PySem.W.keepIn K (.ref c_CallError) = true)
    (xga_CallError : PySem.W.findIn K (.ref c_CallError) "__getattribute__" = some (some (.builtin "BaseException.__getattribute__")))
    (xgg_CallError : PySem.W.findIn K (.ref c_CallError) "__getattr__" = some none)
    (xhd_CallError : PySem.W.hasDictIn K c_CallError = true)
    (xic_CallError : PySem.W.isClsIn K c_CallError = true)
    (xm_CallError_CallError : PySem.W.subIn K (.ref c_CallError) (.ref c_CallError) = some true)
    (xm_CallError_LimitError : PySem.W.subIn K (.ref c_CallError) (.ref c_LimitError) = some false)
    (xm_CallError_InvalidWork : PySem.W.subIn K (.ref c_CallError) (.ref c_InvalidWork) = some false)
    (xm_CallError_TooMany : PySem.W.subIn K (.ref c_CallError) (.ref c_TooMany) = some false)
    (xv_CallError : PySem.W.subIn K (.ref c_CallError) (.type "ValueError") = some true)
    (g_LimitError : PySem.W.nsIn K mainGlobals "LimitError" = some (some (.ref c_LimitError)))
    (xl_LimitError : K.lookup c_LimitError = some (excClassObj xnm_LimitError xq_LimitError c_LimitError xN_LimitError xbs_LimitError xbm_LimitError true xsn_LimitError xsub_LimitError xab_LimitError xcol_LimitError xdd_LimitError xk0_LimitError xk1_LimitError xk2_LimitError xk3_LimitError xk5_LimitError "ArithmeticError.__new__"))
    (xt_LimitError : PySem.W.excTail [.type "ArithmeticError", .type "Exception", .type "BaseException", .type "object"] xbm_LimitError = true)
    (xsa_LimitError : PySem.W.findIn K (.ref c_LimitError) "__setattr__" = some (some (.builtin "object.__setattr__")))
    (xex_LimitError : PySem.W.subIn K (.ref c_LimitError) (.type "BaseException") = some true)
    (xty_LimitError : PySem.W.typeIn K (.ref c_LimitError) = some (.type "type"))
    (xkc_LimitError : PySem.W.keepIn K (.ref c_LimitError) = true)
    (xga_LimitError : PySem.W.findIn K (.ref c_LimitError) "__getattribute__" = some (some (.builtin "BaseException.__getattribute__")))
    (xgg_LimitError : PySem.W.findIn K (.ref c_LimitError) "__getattr__" = some none)
    (xhd_LimitError : PySem.W.hasDictIn K c_LimitError = true)
    (xic_LimitError : PySem.W.isClsIn K c_LimitError = true)
    (xm_LimitError_CallError : PySem.W.subIn K (.ref c_LimitError) (.ref c_CallError) = some false)
    (xm_LimitError_LimitError : PySem.W.subIn K (.ref c_LimitError) (.ref c_LimitError) = some true)
    (xm_LimitError_InvalidWork : PySem.W.subIn K (.ref c_LimitError) (.ref c_InvalidWork) = some false)
    (xm_LimitError_TooMany : PySem.W.subIn K (.ref c_LimitError) (.ref c_TooMany) = some false)
    (xv_LimitError : PySem.W.subIn K (.ref c_LimitError) (.type "ArithmeticError") = some true)
    (g_InvalidWork : PySem.W.nsIn K mainGlobals "InvalidWork" = some (some (.ref c_InvalidWork)))
    (xl_InvalidWork : K.lookup c_InvalidWork = some (excClassObj xnm_InvalidWork xq_InvalidWork c_InvalidWork xN_InvalidWork xbs_InvalidWork xbm_InvalidWork true xsn_InvalidWork xsub_InvalidWork xab_InvalidWork xcol_InvalidWork xdd_InvalidWork xk0_InvalidWork xk1_InvalidWork xk2_InvalidWork xk3_InvalidWork xk5_InvalidWork "ValueError.__new__"))
    (xt_InvalidWork : PySem.W.excTail [.type "ValueError", .type "Exception", .type "BaseException", .type "object"] xbm_InvalidWork = true)
    (xsa_InvalidWork : PySem.W.findIn K (.ref c_InvalidWork) "__setattr__" = some (some (.builtin "object.__setattr__")))
    (xex_InvalidWork : PySem.W.subIn K (.ref c_InvalidWork) (.type "BaseException") = some true)
    (xty_InvalidWork : PySem.W.typeIn K (.ref c_InvalidWork) = some (.type "type"))
    (xkc_InvalidWork : PySem.W.keepIn K (.ref c_InvalidWork) = true)
    (xga_InvalidWork : PySem.W.findIn K (.ref c_InvalidWork) "__getattribute__" = some (some (.builtin "BaseException.__getattribute__")))
    (xgg_InvalidWork : PySem.W.findIn K (.ref c_InvalidWork) "__getattr__" = some none)
    (xhd_InvalidWork : PySem.W.hasDictIn K c_InvalidWork = true)
    (xic_InvalidWork : PySem.W.isClsIn K c_InvalidWork = true)
    (xn_InvalidWork_position : PySem.W.findIn K (.ref c_InvalidWork) "position" = some none)
    (xm_InvalidWork_CallError : PySem.W.subIn K (.ref c_InvalidWork) (.ref c_CallError) = some true)
    (xm_InvalidWork_LimitError : PySem.W.subIn K (.ref c_InvalidWork) (.ref c_LimitError) = some false)
    (xm_InvalidWork_InvalidWork : PySem.W.subIn K (.ref c_InvalidWork) (.ref c_InvalidWork) = some true)
    (xm_InvalidWork_TooMany : PySem.W.subIn K (.ref c_InvalidWork) (.ref c_TooMany) = some false)
    (xe_InvalidWork_CallError : (Value.ref c_InvalidWork == Value.ref c_CallError) = false)
    (xv_InvalidWork : PySem.W.subIn K (.ref c_InvalidWork) (.type "ValueError") = some true)
    (g_TooMany : PySem.W.nsIn K mainGlobals "TooMany" = some (some (.ref c_TooMany)))
    (xl_TooMany : K.lookup c_TooMany = some (excClassObj xnm_TooMany xq_TooMany c_TooMany xN_TooMany xbs_TooMany xbm_TooMany true xsn_TooMany xsub_TooMany xab_TooMany xcol_TooMany xdd_TooMany xk0_TooMany xk1_TooMany xk2_TooMany xk3_TooMany xk5_TooMany "ArithmeticError.__new__"))
    (xt_TooMany : PySem.W.excTail [.type "ArithmeticError", .type "Exception", .type "BaseException", .type "object"] xbm_TooMany = true)
    (xsa_TooMany : PySem.W.findIn K (.ref c_TooMany) "__setattr__" = some (some (.builtin "object.__setattr__")))
    (xex_TooMany : PySem.W.subIn K (.ref c_TooMany) (.type "BaseException") = some true)
    (xty_TooMany : PySem.W.typeIn K (.ref c_TooMany) = some (.type "type"))
    (xkc_TooMany : PySem.W.keepIn K (.ref c_TooMany) = true)
    (xga_TooMany : PySem.W.findIn K (.ref c_TooMany) "__getattribute__" = some (some (.builtin "BaseException.__getattribute__")))
    (xgg_TooMany : PySem.W.findIn K (.ref c_TooMany) "__getattr__" = some none)
    (xhd_TooMany : PySem.W.hasDictIn K c_TooMany = true)
    (xic_TooMany : PySem.W.isClsIn K c_TooMany = true)
    (xn_TooMany_what : PySem.W.findIn K (.ref c_TooMany) "what" = some none)
    (xn_TooMany_limit : PySem.W.findIn K (.ref c_TooMany) "limit" = some none)
    (xm_TooMany_CallError : PySem.W.subIn K (.ref c_TooMany) (.ref c_CallError) = some false)
    (xm_TooMany_LimitError : PySem.W.subIn K (.ref c_TooMany) (.ref c_LimitError) = some true)
    (xm_TooMany_InvalidWork : PySem.W.subIn K (.ref c_TooMany) (.ref c_InvalidWork) = some false)
    (xm_TooMany_TooMany : PySem.W.subIn K (.ref c_TooMany) (.ref c_TooMany) = some true)
    (xe_TooMany_LimitError : (Value.ref c_TooMany == Value.ref c_LimitError) = false)
    (xv_TooMany : PySem.W.subIn K (.ref c_TooMany) (.type "ArithmeticError") = some true)
    (sb_Work_Fill : PySem.W.subIn K (.ref c_Work) (.ref c_Fill) = some false)
    (nq_Work_Fill : (Value.ref c_Work == Value.ref c_Fill) = false)
    (sb_Fill_Work : PySem.W.subIn K (.ref c_Fill) (.ref c_Work) = some false)
    (nq_Fill_Work : (Value.ref c_Fill == Value.ref c_Work) = false)
    (a_is_between : PySem.W.nsIn K mainGlobals "is_between" = some (some (.ref f_is_between)))
    (l_is_between : K.lookup f_is_between = some ⟨oc_is_between, od_is_between, .func (PySem.W.fnOf "is_between" "is_between" (defArgs st_is_between) (defBody st_is_between) (defScope st_is_between) .none kV_is_between dc_is_between pm_is_between an_is_between cd_is_between ct_is_between), sl_is_between⟩)
    (c_is_between : PySem.W.codeIn K cd_is_between "is_between" = true)
    (k_is_between : PySem.W.keepIn K (.ref f_is_between) = true)
    (a_is_word_of : PySem.W.nsIn K mainGlobals "is_word_of" = some (some (.ref f_is_word_of)))
    (l_is_word_of : K.lookup f_is_word_of = some ⟨oc_is_word_of, od_is_word_of, .func (PySem.W.fnOf "is_word_of" "is_word_of" (defArgs st_is_word_of) (defBody st_is_word_of) (defScope st_is_word_of) .none kV_is_word_of dc_is_word_of pm_is_word_of an_is_word_of cd_is_word_of ct_is_word_of), sl_is_word_of⟩)
    (c_is_word_of : PySem.W.codeIn K cd_is_word_of "is_word_of" = true)
    (k_is_word_of : PySem.W.keepIn K (.ref f_is_word_of) = true)
    (a_Fill_init : PySem.W.findIn K (.ref c_Fill) "__init__" = some (some (.ref f_Fill_init)))
    (i_Fill_init : PySem.W.isFn K (.ref f_Fill_init) = true)
    (l_Fill_init : K.lookup f_Fill_init = some ⟨oc_Fill_init, od_Fill_init, .func (PySem.W.fnOf "__init__" "Fill.__init__" (defArgs st_Fill_init) (defBody st_Fill_init) (defScope st_Fill_init) (.ref T0_Fill) kV_Fill_init dc_Fill_init pm_Fill_init an_Fill_init cd_Fill_init ct_Fill_init), sl_Fill_init⟩)
    (c_Fill_init : PySem.W.codeIn K cd_Fill_init "Fill.__init__" = true)
    (k_Fill_init : PySem.W.keepIn K (.ref f_Fill_init) = true)
    (tO_Fill : K.lookup T0_Fill = some ⟨ocT_Fill, odT_Fill, .seq itT_Fill nT_Fill, slT_Fill⟩)
    (vT_Fill : Vals [.str "free", .non] itT_Fill.toList)
    (a_Fill_word : PySem.W.findIn K (.ref c_Fill) "word" = some (some (.ref p_Fill_word)))
    (g_Fill_word : PySem.W.specialIn K (.ref p_Fill_word) "__get__" = some (some (.builtin "property.__get__")))
    (t_Fill_word : PySem.W.takesIn K (.ref p_Fill_word) = some true)
    (r_Fill_word : PySem.W.recIn K p_Fill_word "property" = some (.ref f_Fill_word :: re_Fill_word))
    (l_Fill_word : K.lookup f_Fill_word = some ⟨oc_Fill_word, od_Fill_word, .func (PySem.W.fnOf "word" "Fill.word" (defArgs st_Fill_word) (defBody st_Fill_word) (defScope st_Fill_word) .none kV_Fill_word dc_Fill_word pm_Fill_word an_Fill_word cd_Fill_word ct_Fill_word), sl_Fill_word⟩)
    (c_Fill_word : PySem.W.codeIn K cd_Fill_word "Fill.word" = true)
    (k_Fill_word : PySem.W.keepIn K (.ref f_Fill_word) = true)
    (a_Fill_extent : PySem.W.findIn K (.ref c_Fill) "extent" = some (some (.ref p_Fill_extent)))
    (g_Fill_extent : PySem.W.specialIn K (.ref p_Fill_extent) "__get__" = some (some (.builtin "property.__get__")))
    (t_Fill_extent : PySem.W.takesIn K (.ref p_Fill_extent) = some true)
    (r_Fill_extent : PySem.W.recIn K p_Fill_extent "property" = some (.ref f_Fill_extent :: re_Fill_extent))
    (l_Fill_extent : K.lookup f_Fill_extent = some ⟨oc_Fill_extent, od_Fill_extent, .func (PySem.W.fnOf "extent" "Fill.extent" (defArgs st_Fill_extent) (defBody st_Fill_extent) (defScope st_Fill_extent) .none kV_Fill_extent dc_Fill_extent pm_Fill_extent an_Fill_extent cd_Fill_extent ct_Fill_extent), sl_Fill_extent⟩)
    (c_Fill_extent : PySem.W.codeIn K cd_Fill_extent "Fill.extent" = true)
    (k_Fill_extent : PySem.W.keepIn K (.ref f_Fill_extent) = true)
    (a_Fill_is_free : PySem.W.findIn K (.ref c_Fill) "is_free" = some (some (.ref p_Fill_is_free)))
    (g_Fill_is_free : PySem.W.specialIn K (.ref p_Fill_is_free) "__get__" = some (some (.builtin "property.__get__")))
    (t_Fill_is_free : PySem.W.takesIn K (.ref p_Fill_is_free) = some true)
    (r_Fill_is_free : PySem.W.recIn K p_Fill_is_free "property" = some (.ref f_Fill_is_free :: re_Fill_is_free))
    (l_Fill_is_free : K.lookup f_Fill_is_free = some ⟨oc_Fill_is_free, od_Fill_is_free, .func (PySem.W.fnOf "is_free" "Fill.is_free" (defArgs st_Fill_is_free) (defBody st_Fill_is_free) (defScope st_Fill_is_free) .none kV_Fill_is_free dc_Fill_is_free pm_Fill_is_free an_Fill_is_free cd_Fill_is_free ct_Fill_is_free), sl_Fill_is_free⟩)
    (c_Fill_is_free : PySem.W.codeIn K cd_Fill_is_free "Fill.is_free" = true)
    (k_Fill_is_free : PySem.W.keepIn K (.ref f_Fill_is_free) = true)
    (a_InvalidWork_init : PySem.W.findIn K (.ref c_InvalidWork) "__init__" = some (some (.ref f_InvalidWork_init)))
    (i_InvalidWork_init : PySem.W.isFn K (.ref f_InvalidWork_init) = true)
    (t_InvalidWork_init : PySem.W.typeIn K (.ref f_InvalidWork_init) = some (.type "function"))
    (l_InvalidWork_init : K.lookup f_InvalidWork_init = some ⟨oc_InvalidWork_init, od_InvalidWork_init, .func (PySem.W.fnOf "__init__" "InvalidWork.__init__" (defArgs st_InvalidWork_init) (defBody st_InvalidWork_init) (defScope st_InvalidWork_init) .none kV_InvalidWork_init dc_InvalidWork_init pm_InvalidWork_init an_InvalidWork_init cd_InvalidWork_init ct_InvalidWork_init), sl_InvalidWork_init⟩)
    (c_InvalidWork_init : PySem.W.codeIn K cd_InvalidWork_init "InvalidWork.__init__" = true)
    (k_InvalidWork_init : PySem.W.keepIn K (.ref f_InvalidWork_init) = true)
    (a_TooMany_init : PySem.W.findIn K (.ref c_TooMany) "__init__" = some (some (.ref f_TooMany_init)))
    (i_TooMany_init : PySem.W.isFn K (.ref f_TooMany_init) = true)
    (t_TooMany_init : PySem.W.typeIn K (.ref f_TooMany_init) = some (.type "function"))
    (l_TooMany_init : K.lookup f_TooMany_init = some ⟨oc_TooMany_init, od_TooMany_init, .func (PySem.W.fnOf "__init__" "TooMany.__init__" (defArgs st_TooMany_init) (defBody st_TooMany_init) (defScope st_TooMany_init) .none kV_TooMany_init dc_TooMany_init pm_TooMany_init an_TooMany_init cd_TooMany_init ct_TooMany_init), sl_TooMany_init⟩)
    (c_TooMany_init : PySem.W.codeIn K cd_TooMany_init "TooMany.__init__" = true)
    (k_TooMany_init : PySem.W.keepIn K (.ref f_TooMany_init) = true)
    (a_Work_init : PySem.W.findIn K (.ref c_Work) "__init__" = some (some (.ref f_Work_init)))
    (i_Work_init : PySem.W.isFn K (.ref f_Work_init) = true)
    (l_Work_init : K.lookup f_Work_init = some ⟨oc_Work_init, od_Work_init, .func (PySem.W.fnOf "__init__" "Work.__init__" (defArgs st_Work_init) (defBody st_Work_init) (defScope st_Work_init) .none kV_Work_init dc_Work_init pm_Work_init an_Work_init cd_Work_init ct_Work_init), sl_Work_init⟩)
    (c_Work_init : PySem.W.codeIn K cd_Work_init "Work.__init__" = true)
    (k_Work_init : PySem.W.keepIn K (.ref f_Work_init) = true)
    (a_plain_fills : PySem.W.nsIn K mainGlobals "plain_fills" = some (some (.ref f_plain_fills)))
    (l_plain_fills : K.lookup f_plain_fills = some ⟨oc_plain_fills, od_plain_fills, .func (PySem.W.fnOf "plain_fills" "plain_fills" (defArgs st_plain_fills) (defBody st_plain_fills) (defScope st_plain_fills) .none kV_plain_fills dc_plain_fills pm_plain_fills an_plain_fills cd_plain_fills ct_plain_fills), sl_plain_fills⟩)
    (c_plain_fills : PySem.W.codeIn K cd_plain_fills "plain_fills" = true)
    (k_plain_fills : PySem.W.keepIn K (.ref f_plain_fills) = true)
    (a_Work_len : PySem.W.findIn K (.ref c_Work) "__len__" = some (some (.ref f_Work_len)))
    (i_Work_len : PySem.W.isFn K (.ref f_Work_len) = true)
    (l_Work_len : K.lookup f_Work_len = some ⟨oc_Work_len, od_Work_len, .func (PySem.W.fnOf "__len__" "Work.__len__" (defArgs st_Work_len) (defBody st_Work_len) (defScope st_Work_len) .none kV_Work_len dc_Work_len pm_Work_len an_Work_len cd_Work_len ct_Work_len), sl_Work_len⟩)
    (c_Work_len : PySem.W.codeIn K cd_Work_len "Work.__len__" = true)
    (k_Work_len : PySem.W.keepIn K (.ref f_Work_len) = true)
    (a_Work_fills : PySem.W.findIn K (.ref c_Work) "fills" = some (some (.ref f_Work_fills)))
    (i_Work_fills : PySem.W.isFn K (.ref f_Work_fills) = true)
    (l_Work_fills : K.lookup f_Work_fills = some ⟨oc_Work_fills, od_Work_fills, .func (PySem.W.fnOf "fills" "Work.fills" (defArgs st_Work_fills) (defBody st_Work_fills) (defScope st_Work_fills) .none kV_Work_fills dc_Work_fills pm_Work_fills an_Work_fills cd_Work_fills ct_Work_fills), sl_Work_fills⟩)
    (c_Work_fills : PySem.W.codeIn K cd_Work_fills "Work.fills" = true)
    (k_Work_fills : PySem.W.keepIn K (.ref f_Work_fills) = true)
    (a_Work_plain : PySem.W.findIn K (.ref c_Work) "plain" = some (some (.ref f_Work_plain)))
    (i_Work_plain : PySem.W.isFn K (.ref f_Work_plain) = true)
    (l_Work_plain : K.lookup f_Work_plain = some ⟨oc_Work_plain, od_Work_plain, .func (PySem.W.fnOf "plain" "Work.plain" (defArgs st_Work_plain) (defBody st_Work_plain) (defScope st_Work_plain) .none kV_Work_plain dc_Work_plain pm_Work_plain an_Work_plain cd_Work_plain ct_Work_plain), sl_Work_plain⟩)
    (c_Work_plain : PySem.W.codeIn K cd_Work_plain "Work.plain" = true)
    (k_Work_plain : PySem.W.keepIn K (.ref f_Work_plain) = true)
    (a_Fill_eq : PySem.W.findIn K (.ref c_Fill) "__eq__" = some (some (.ref f_Fill_eq)))
    (i_Fill_eq : PySem.W.isFn K (.ref f_Fill_eq) = true)
    (l_Fill_eq : K.lookup f_Fill_eq = some ⟨oc_Fill_eq, od_Fill_eq, .func (PySem.W.fnOf "__eq__" "Fill.__eq__" (defArgs st_Fill_eq) (defBody st_Fill_eq) (defScope st_Fill_eq) .none kV_Fill_eq dc_Fill_eq pm_Fill_eq an_Fill_eq cd_Fill_eq ct_Fill_eq), sl_Fill_eq⟩)
    (c_Fill_eq : PySem.W.codeIn K cd_Fill_eq "Fill.__eq__" = true)
    (k_Fill_eq : PySem.W.keepIn K (.ref f_Fill_eq) = true)
    (a_Work_add : PySem.W.findIn K (.ref c_Work) "__add__" = some (some (.ref f_Work_add)))
    (i_Work_add : PySem.W.isFn K (.ref f_Work_add) = true)
    (l_Work_add : K.lookup f_Work_add = some ⟨oc_Work_add, od_Work_add, .func (PySem.W.fnOf "__add__" "Work.__add__" (defArgs st_Work_add) (defBody st_Work_add) (defScope st_Work_add) .none kV_Work_add dc_Work_add pm_Work_add an_Work_add cd_Work_add ct_Work_add), sl_Work_add⟩)
    (c_Work_add : PySem.W.codeIn K cd_Work_add "Work.__add__" = true)
    (k_Work_add : PySem.W.keepIn K (.ref f_Work_add) = true)
    (a_filled : PySem.W.nsIn K mainGlobals "filled" = some (some (.ref f_filled)))
    (l_filled : K.lookup f_filled = some ⟨oc_filled, od_filled, .func (PySem.W.fnOf "filled" "filled" (defArgs st_filled) (defBody st_filled) (defScope st_filled) .none kV_filled dc_filled pm_filled an_filled cd_filled ct_filled), sl_filled⟩)
    (c_filled : PySem.W.codeIn K cd_filled "filled" = true)
    (k_filled : PySem.W.keepIn K (.ref f_filled) = true)
    (a_is_bit : PySem.W.nsIn K mainGlobals "is_bit" = some (some (.ref f_is_bit)))
    (l_is_bit : K.lookup f_is_bit = some ⟨oc_is_bit, od_is_bit, .func (PySem.W.fnOf "is_bit" "is_bit" (defArgs st_is_bit) (defBody st_is_bit) (defScope st_is_bit) .none kV_is_bit dc_is_bit pm_is_bit an_is_bit cd_is_bit ct_is_bit), sl_is_bit⟩)
    (c_is_bit : PySem.W.codeIn K cd_is_bit "is_bit" = true)
    (k_is_bit : PySem.W.keepIn K (.ref f_is_bit) = true)
    (a_is_list : PySem.W.nsIn K mainGlobals "is_list" = some (some (.ref f_is_list)))
    (l_is_list : K.lookup f_is_list = some ⟨oc_is_list, od_is_list, .func (PySem.W.fnOf "is_list" "is_list" (defArgs st_is_list) (defBody st_is_list) (defScope st_is_list) .none kV_is_list dc_is_list pm_is_list an_is_list cd_is_list ct_is_list), sl_is_list⟩)
    (c_is_list : PySem.W.codeIn K cd_is_list "is_list" = true)
    (k_is_list : PySem.W.keepIn K (.ref f_is_list) = true)
    (a_Work_call : PySem.W.findIn K (.ref c_Work) "__call__" = some (some (.ref f_Work_call)))
    (i_Work_call : PySem.W.isFn K (.ref f_Work_call) = true)
    (n_Work_call : PySem.W.fnIn K f_Work_call = true)
    (l_Work_call : K.lookup f_Work_call = some ⟨oc_Work_call, od_Work_call, .func (PySem.W.fnOf "__call__" "Work.__call__" (defArgs st_Work_call) (defBody st_Work_call) (defScope st_Work_call) .none kV_Work_call dc_Work_call pm_Work_call an_Work_call cd_Work_call ct_Work_call), sl_Work_call⟩)
    (c_Work_call : PySem.W.codeIn K cd_Work_call "Work.__call__" = true)
    (k_Work_call : PySem.W.keepIn K (.ref f_Work_call) = true)
    (a_Work_eq : PySem.W.findIn K (.ref c_Work) "__eq__" = some (some (.ref f_Work_eq)))
    (i_Work_eq : PySem.W.isFn K (.ref f_Work_eq) = true)
    (l_Work_eq : K.lookup f_Work_eq = some ⟨oc_Work_eq, od_Work_eq, .func (PySem.W.fnOf "__eq__" "Work.__eq__" (defArgs st_Work_eq) (defBody st_Work_eq) (defScope st_Work_eq) .none kV_Work_eq dc_Work_eq pm_Work_eq an_Work_eq cd_Work_eq ct_Work_eq), sl_Work_eq⟩)
    (c_Work_eq : PySem.W.codeIn K cd_Work_eq "Work.__eq__" = true)
    (k_Work_eq : PySem.W.keepIn K (.ref f_Work_eq) = true)
    (a_Work_is_like : PySem.W.findIn K (.ref c_Work) "is_like" = some (some (.ref f_Work_is_like)))
    (i_Work_is_like : PySem.W.isFn K (.ref f_Work_is_like) = true)
    (l_Work_is_like : K.lookup f_Work_is_like = some ⟨oc_Work_is_like, od_Work_is_like, .func (PySem.W.fnOf "is_like" "Work.is_like" (defArgs st_Work_is_like) (defBody st_Work_is_like) (defScope st_Work_is_like) .none kV_Work_is_like dc_Work_is_like pm_Work_is_like an_Work_is_like cd_Work_is_like ct_Work_is_like), sl_Work_is_like⟩)
    (c_Work_is_like : PySem.W.codeIn K cd_Work_is_like "Work.is_like" = true)
    (k_Work_is_like : PySem.W.keepIn K (.ref f_Work_is_like) = true)
    (a_l_draw : PySem.W.nsIn K mainGlobals "_law_draw" = some (some (.ref f_l_draw)))
    (l_l_draw : K.lookup f_l_draw = some ⟨oc_l_draw, od_l_draw, .func (PySem.W.fnOf "_law_draw" "_law_draw" (defArgs st_l_draw) (defBody st_l_draw) (defScope st_l_draw) .none kV_l_draw dc_l_draw pm_l_draw an_l_draw cd_l_draw ct_l_draw), sl_l_draw⟩)
    (c_l_draw : PySem.W.codeIn K cd_l_draw "_law_draw" = true)
    (k_l_draw : PySem.W.keepIn K (.ref f_l_draw) = true)
    (a_l_pick : PySem.W.nsIn K mainGlobals "_law_pick" = some (some (.ref f_l_pick)))
    (l_l_pick : K.lookup f_l_pick = some ⟨oc_l_pick, od_l_pick, .func (PySem.W.fnOf "_law_pick" "_law_pick" (defArgs st_l_pick) (defBody st_l_pick) (defScope st_l_pick) .none kV_l_pick dc_l_pick pm_l_pick an_l_pick cd_l_pick ct_l_pick), sl_l_pick⟩)
    (c_l_pick : PySem.W.codeIn K cd_l_pick "_law_pick" = true)
    (k_l_pick : PySem.W.keepIn K (.ref f_l_pick) = true)
    (a_l_pot : PySem.W.nsIn K mainGlobals "_law_pot" = some (some (.ref f_l_pot)))
    (l_l_pot : K.lookup f_l_pot = some ⟨oc_l_pot, od_l_pot, .func (PySem.W.fnOf "_law_pot" "_law_pot" (defArgs st_l_pot) (defBody st_l_pot) (defScope st_l_pot) .none kV_l_pot dc_l_pot pm_l_pot an_l_pot cd_l_pot ct_l_pot), sl_l_pot⟩)
    (c_l_pot : PySem.W.codeIn K cd_l_pot "_law_pot" = true)
    (k_l_pot : PySem.W.keepIn K (.ref f_l_pot) = true)
    (a_l_made : PySem.W.nsIn K mainGlobals "_law_made" = some (some (.ref f_l_made)))
    (l_l_made : K.lookup f_l_made = some ⟨oc_l_made, od_l_made, .func (PySem.W.fnOf "_law_made" "_law_made" (defArgs st_l_made) (defBody st_l_made) (defScope st_l_made) .none kV_l_made dc_l_made pm_l_made an_l_made cd_l_made ct_l_made), sl_l_made⟩)
    (c_l_made : PySem.W.codeIn K cd_l_made "_law_made" = true)
    (k_l_made : PySem.W.keepIn K (.ref f_l_made) = true)
    (a_l_rows : PySem.W.nsIn K mainGlobals "_law_rows" = some (some (.ref f_l_rows)))
    (l_l_rows : K.lookup f_l_rows = some ⟨oc_l_rows, od_l_rows, .func (PySem.W.fnOf "_law_rows" "_law_rows" (defArgs st_l_rows) (defBody st_l_rows) (defScope st_l_rows) .none kV_l_rows dc_l_rows pm_l_rows an_l_rows cd_l_rows ct_l_rows), sl_l_rows⟩)
    (c_l_rows : PySem.W.codeIn K cd_l_rows "_law_rows" = true)
    (k_l_rows : PySem.W.keepIn K (.ref f_l_rows) = true)
    (a_l_last : PySem.W.nsIn K mainGlobals "_law_last" = some (some (.ref f_l_last)))
    (l_l_last : K.lookup f_l_last = some ⟨oc_l_last, od_l_last, .func (PySem.W.fnOf "_law_last" "_law_last" (defArgs st_l_last) (defBody st_l_last) (defScope st_l_last) .none kV_l_last dc_l_last pm_l_last an_l_last cd_l_last ct_l_last), sl_l_last⟩)
    (c_l_last : PySem.W.codeIn K cd_l_last "_law_last" = true)
    (k_l_last : PySem.W.keepIn K (.ref f_l_last) = true)
    (a_l_plain : PySem.W.nsIn K mainGlobals "_law_plain" = some (some (.ref f_l_plain)))
    (l_l_plain : K.lookup f_l_plain = some ⟨oc_l_plain, od_l_plain, .func (PySem.W.fnOf "_law_plain" "_law_plain" (defArgs st_l_plain) (defBody st_l_plain) (defScope st_l_plain) .none kV_l_plain dc_l_plain pm_l_plain an_l_plain cd_l_plain ct_l_plain), sl_l_plain⟩)
    (c_l_plain : PySem.W.codeIn K cd_l_plain "_law_plain" = true)
    (k_l_plain : PySem.W.keepIn K (.ref f_l_plain) = true)
    (a_l_parts : PySem.W.nsIn K mainGlobals "_law_parts" = some (some (.ref f_l_parts)))
    (l_l_parts : K.lookup f_l_parts = some ⟨oc_l_parts, od_l_parts, .func (PySem.W.fnOf "_law_parts" "_law_parts" (defArgs st_l_parts) (defBody st_l_parts) (defScope st_l_parts) .none kV_l_parts dc_l_parts pm_l_parts an_l_parts cd_l_parts ct_l_parts), sl_l_parts⟩)
    (c_l_parts : PySem.W.codeIn K cd_l_parts "_law_parts" = true)
    (k_l_parts : PySem.W.keepIn K (.ref f_l_parts) = true)
    (a_l_row : PySem.W.nsIn K mainGlobals "_law_row" = some (some (.ref f_l_row)))
    (l_l_row : K.lookup f_l_row = some ⟨oc_l_row, od_l_row, .func (PySem.W.fnOf "_law_row" "_law_row" (defArgs st_l_row) (defBody st_l_row) (defScope st_l_row) .none kV_l_row dc_l_row pm_l_row an_l_row cd_l_row ct_l_row), sl_l_row⟩)
    (c_l_row : PySem.W.codeIn K cd_l_row "_law_row" = true)
    (k_l_row : PySem.W.keepIn K (.ref f_l_row) = true)
    (a_l_like : PySem.W.nsIn K mainGlobals "_law_like" = some (some (.ref f_l_like)))
    (l_l_like : K.lookup f_l_like = some ⟨oc_l_like, od_l_like, .func (PySem.W.fnOf "_law_like" "_law_like" (defArgs st_l_like) (defBody st_l_like) (defScope st_l_like) .none kV_l_like dc_l_like pm_l_like an_l_like cd_l_like ct_l_like), sl_l_like⟩)
    (c_l_like : PySem.W.codeIn K cd_l_like "_law_like" = true)
    (k_l_like : PySem.W.keepIn K (.ref f_l_like) = true)
    (a_l_bent : PySem.W.nsIn K mainGlobals "_law_bent" = some (some (.ref f_l_bent)))
    (l_l_bent : K.lookup f_l_bent = some ⟨oc_l_bent, od_l_bent, .func (PySem.W.fnOf "_law_bent" "_law_bent" (defArgs st_l_bent) (defBody st_l_bent) (defScope st_l_bent) .none kV_l_bent dc_l_bent pm_l_bent an_l_bent cd_l_bent ct_l_bent), sl_l_bent⟩)
    (c_l_bent : PySem.W.codeIn K cd_l_bent "_law_bent" = true)
    (k_l_bent : PySem.W.keepIn K (.ref f_l_bent) = true)
    (a_l_row_parts : PySem.W.nsIn K mainGlobals "_law_row_parts" = some (some (.ref f_l_row_parts)))
    (l_l_row_parts : K.lookup f_l_row_parts = some ⟨oc_l_row_parts, od_l_row_parts, .func (PySem.W.fnOf "_law_row_parts" "_law_row_parts" (defArgs st_l_row_parts) (defBody st_l_row_parts) (defScope st_l_row_parts) .none kV_l_row_parts dc_l_row_parts pm_l_row_parts an_l_row_parts cd_l_row_parts ct_l_row_parts), sl_l_row_parts⟩)
    (c_l_row_parts : PySem.W.codeIn K cd_l_row_parts "_law_row_parts" = true)
    (k_l_row_parts : PySem.W.keepIn K (.ref f_l_row_parts) = true)
    (a_l_plain_right : PySem.W.nsIn K mainGlobals "_law_plain_right" = some (some (.ref f_l_plain_right)))
    (l_l_plain_right : K.lookup f_l_plain_right = some ⟨oc_l_plain_right, od_l_plain_right, .func (PySem.W.fnOf "_law_plain_right" "_law_plain_right" (defArgs st_l_plain_right) (defBody st_l_plain_right) (defScope st_l_plain_right) .none kV_l_plain_right dc_l_plain_right pm_l_plain_right an_l_plain_right cd_l_plain_right ct_l_plain_right), sl_l_plain_right⟩)
    (c_l_plain_right : PySem.W.codeIn K cd_l_plain_right "_law_plain_right" = true)
    (k_l_plain_right : PySem.W.keepIn K (.ref f_l_plain_right) = true)
    (a_l_pair_right : PySem.W.nsIn K mainGlobals "_law_pair_right" = some (some (.ref f_l_pair_right)))
    (l_l_pair_right : K.lookup f_l_pair_right = some ⟨oc_l_pair_right, od_l_pair_right, .func (PySem.W.fnOf "_law_pair_right" "_law_pair_right" (defArgs st_l_pair_right) (defBody st_l_pair_right) (defScope st_l_pair_right) .none kV_l_pair_right dc_l_pair_right pm_l_pair_right an_l_pair_right cd_l_pair_right ct_l_pair_right), sl_l_pair_right⟩)
    (c_l_pair_right : PySem.W.codeIn K cd_l_pair_right "_law_pair_right" = true)
    (k_l_pair_right : PySem.W.keepIn K (.ref f_l_pair_right) = true)
    (a_l_told : PySem.W.nsIn K mainGlobals "_law_told" = some (some (.ref f_l_told)))
    (l_l_told : K.lookup f_l_told = some ⟨oc_l_told, od_l_told, .func (PySem.W.fnOf "_law_told" "_law_told" (defArgs st_l_told) (defBody st_l_told) (defScope st_l_told) .none kV_l_told dc_l_told pm_l_told an_l_told cd_l_told ct_l_told), sl_l_told⟩)
    (c_l_told : PySem.W.codeIn K cd_l_told "_law_told" = true)
    (k_l_told : PySem.W.keepIn K (.ref f_l_told) = true)
    (a_l_long : PySem.W.nsIn K mainGlobals "_law_long" = some (some (.ref f_l_long)))
    (l_l_long : K.lookup f_l_long = some ⟨oc_l_long, od_l_long, .func (PySem.W.fnOf "_law_long" "_law_long" (defArgs st_l_long) (defBody st_l_long) (defScope st_l_long) .none kV_l_long dc_l_long pm_l_long an_l_long cd_l_long ct_l_long), sl_l_long⟩)
    (c_l_long : PySem.W.codeIn K cd_l_long "_law_long" = true)
    (k_l_long : PySem.W.keepIn K (.ref f_l_long) = true)
    (a_l_great_right : PySem.W.nsIn K mainGlobals "_law_great_right" = some (some (.ref f_l_great_right)))
    (l_l_great_right : K.lookup f_l_great_right = some ⟨oc_l_great_right, od_l_great_right, .func (PySem.W.fnOf "_law_great_right" "_law_great_right" (defArgs st_l_great_right) (defBody st_l_great_right) (defScope st_l_great_right) .none kV_l_great_right dc_l_great_right pm_l_great_right an_l_great_right (.ref cM) ct_l_great_right), sl_l_great_right⟩)
    (c_l_great_right : PySem.W.codeIn K (.ref cM) "_law_great_right" = true)
    (k_l_great_right : PySem.W.keepIn K (.ref f_l_great_right) = true)
    (a_l_right : PySem.W.nsIn K mainGlobals "_law_right" = some (some (.ref f_l_right)))
    (l_l_right : K.lookup f_l_right = some ⟨oc_l_right, od_l_right, .func (PySem.W.fnOf "_law_right" "_law_right" (defArgs st_l_right) (defBody st_l_right) (defScope st_l_right) .none kV_l_right dc_l_right pm_l_right an_l_right cd_l_right ct_l_right), sl_l_right⟩)
    (c_l_right : PySem.W.codeIn K cd_l_right "_law_right" = true)
    (k_l_right : PySem.W.keepIn K (.ref f_l_right) = true)
    (a_law : PySem.W.nsIn K mainGlobals "law" = some (some (.ref f_law)))
    (l_law : K.lookup f_law = some ⟨oc_law, od_law, .func (PySem.W.fnOf "law" "law" (defArgs st_law) (defBody st_law) (defScope st_law) .none kV_law dc_law pm_law an_law cd_law ct_law), sl_law⟩)
    (c_law : PySem.W.codeIn K cd_law "law" = true)
    (k_law : PySem.W.keepIn K (.ref f_law) = true)
    (nP_PM : K.lookup PM = none) (cP_PM : PySem.W.codeHdIn K cM PM = true) :
    UL.LawAtG l w K 11 63 "_law_script" mg fa h := by
  have e := hfa.symm.trans (PySem.W.mg_of X G a_law)
  cases e
  obtain ⟨fd, hb, hF⟩ := core (ad := ⟨c_CallError, zz_c_InvalidNumber, zz_c_InvalidFill, c_InvalidWork, zz_c_InvalidBits, c_LimitError, c_TooMany, c_Fill, c_Work⟩) (PM := PM) X G cn ctk g_Fill pgFill hdFill poFill saFill caFill cmFill icFill tyFill mkFill kcFill suFill_NoneType suFill_tuple suFill_str suFill_int suFill_list suFill_bool suFill_dict sxFill_str sxFill_int sxFill_bool neFill nFill_word nFill_extent clFill mrFill cadFill crdFill oad ord_ g_Work pgWork hdWork poWork saWork caWork cmWork icWork tyWork mkWork kcWork suWork_NoneType suWork_tuple suWork_str suWork_int suWork_list suWork_bool suWork_dict sxWork_str sxWork_int sxWork_bool neWork nWork_fills sfWork sta str_ nrWork ta_NoneType tr_NoneType ta_tuple tr_tuple ta_str tr_str ta_int tr_int ta_list tr_list ta_bool tr_bool ta_dict tr_dict sxWork_list sxWork_tuple ga_FREE v_FREE ga_ZEROS v_ZEROS ga_SIGN v_SIGN ga_LEAST_EXTENT v_LEAST_EXTENT ga_LEAST_WIDTH v_LEAST_WIDTH ga_MOST_BITS v_MOST_BITS ga_MOST_FILLS v_MOST_FILLS b_ArithmeticError b_ValueError b_abs b_bool b_divmod b_enumerate b_int b_isinstance b_len b_list b_max b_min b_property b_range b_repr b_staticmethod b_str b_tuple g_CallError xl_CallError xt_CallError xsa_CallError xex_CallError xty_CallError xkc_CallError xga_CallError xgg_CallError xhd_CallError xic_CallError xm_CallError_CallError xm_CallError_LimitError xm_CallError_InvalidWork xm_CallError_TooMany xv_CallError g_LimitError xl_LimitError xt_LimitError xsa_LimitError xex_LimitError xty_LimitError xkc_LimitError xga_LimitError xgg_LimitError xhd_LimitError xic_LimitError xm_LimitError_CallError xm_LimitError_LimitError xm_LimitError_InvalidWork xm_LimitError_TooMany xv_LimitError g_InvalidWork xl_InvalidWork xt_InvalidWork xsa_InvalidWork xex_InvalidWork xty_InvalidWork xkc_InvalidWork xga_InvalidWork xgg_InvalidWork xhd_InvalidWork xic_InvalidWork xn_InvalidWork_position xm_InvalidWork_CallError xm_InvalidWork_LimitError xm_InvalidWork_InvalidWork xm_InvalidWork_TooMany xe_InvalidWork_CallError xv_InvalidWork g_TooMany xl_TooMany xt_TooMany xsa_TooMany xex_TooMany xty_TooMany xkc_TooMany xga_TooMany xgg_TooMany xhd_TooMany xic_TooMany xn_TooMany_what xn_TooMany_limit xm_TooMany_CallError xm_TooMany_LimitError xm_TooMany_InvalidWork xm_TooMany_TooMany xe_TooMany_LimitError xv_TooMany sb_Work_Fill nq_Work_Fill sb_Fill_Work nq_Fill_Work a_is_between l_is_between c_is_between k_is_between a_is_word_of l_is_word_of c_is_word_of k_is_word_of a_Fill_init i_Fill_init l_Fill_init c_Fill_init k_Fill_init tO_Fill vT_Fill a_Fill_word g_Fill_word t_Fill_word r_Fill_word l_Fill_word c_Fill_word k_Fill_word a_Fill_extent g_Fill_extent t_Fill_extent r_Fill_extent l_Fill_extent c_Fill_extent k_Fill_extent a_Fill_is_free g_Fill_is_free t_Fill_is_free r_Fill_is_free l_Fill_is_free c_Fill_is_free k_Fill_is_free a_InvalidWork_init i_InvalidWork_init t_InvalidWork_init l_InvalidWork_init c_InvalidWork_init k_InvalidWork_init a_TooMany_init i_TooMany_init t_TooMany_init l_TooMany_init c_TooMany_init k_TooMany_init a_Work_init i_Work_init l_Work_init c_Work_init k_Work_init a_plain_fills l_plain_fills c_plain_fills k_plain_fills a_Work_len i_Work_len l_Work_len c_Work_len k_Work_len a_Work_fills i_Work_fills l_Work_fills c_Work_fills k_Work_fills a_Work_plain i_Work_plain l_Work_plain c_Work_plain k_Work_plain a_Fill_eq i_Fill_eq l_Fill_eq c_Fill_eq k_Fill_eq a_Work_add i_Work_add l_Work_add c_Work_add k_Work_add a_filled l_filled c_filled k_filled a_is_bit l_is_bit c_is_bit k_is_bit a_is_list l_is_list c_is_list k_is_list a_Work_call i_Work_call n_Work_call l_Work_call c_Work_call k_Work_call a_Work_eq i_Work_eq l_Work_eq c_Work_eq k_Work_eq a_Work_is_like i_Work_is_like l_Work_is_like c_Work_is_like k_Work_is_like a_l_draw l_l_draw c_l_draw k_l_draw a_l_pick l_l_pick c_l_pick k_l_pick a_l_pot l_l_pot c_l_pot k_l_pot a_l_made l_l_made c_l_made k_l_made a_l_rows l_l_rows c_l_rows k_l_rows a_l_last l_l_last c_l_last k_l_last a_l_plain l_l_plain c_l_plain k_l_plain a_l_parts l_l_parts c_l_parts k_l_parts a_l_row l_l_row c_l_row k_l_row a_l_like l_l_like c_l_like k_l_like a_l_bent l_l_bent c_l_bent k_l_bent a_l_row_parts l_l_row_parts c_l_row_parts k_l_row_parts a_l_plain_right l_l_plain_right c_l_plain_right k_l_plain_right a_l_pair_right l_l_pair_right c_l_pair_right k_l_pair_right a_l_told l_l_told c_l_told k_l_told a_l_long l_l_long c_l_long k_l_long a_l_great_right l_l_great_right c_l_great_right k_l_great_right a_l_right l_l_right c_l_right k_l_right l_law c_law k_law
  refine ⟨fd, [(cM, PM)], _, fun p hp => ?_, fun p hp => ?_, fun p hp => ?_, hb, fun H a ns hl hT hS => ?_, fun base Kb Gb TBs => hF base Kb Gb (TBs _ List.mem_cons_self)⟩
  · simp only [List.mem_cons, List.not_mem_nil, or_false] at hp
    rcases hp with rfl
    · exact hP_PM
  · simp only [List.mem_cons, List.not_mem_nil, or_false] at hp
    rcases hp with rfl
    · exact nP_PM
  · simp only [List.mem_cons, List.not_mem_nil, or_false] at hp
    rcases hp with rfl
    · exact cP_PM
  · refine ⟨a, ns, rfl, hS, hl, fun p hp => ?_, fun _ => rfl⟩
    have hp : p ∈ [(PM, ("_law_great_right" : Str) ++ ".<locals>." ++ "<lambda>")] := hp
    simp only [List.mem_cons, List.not_mem_nil, or_false] at hp
    rcases hp with rfl
    · exact LamX.TabS.nil (hT (cM, PM) List.mem_cons_self)
end K14
set_option Elab.async false
set_option linter.all false
open PySem PySem.W PyProof.Rows L2
set_option maxRecDepth 100000 in
set_option maxHeartbeats 0 in
theorem PySem.Challenge.cw_unlikecalls_k14_whole_plain_works_holds : PySem.Challenge.rw_unlikecalls_k14_whole_plain_works.Holds := by
  w_on; o_law; k_head; (case hw => w_witness2)
  k_fill
  refine UL.walkGS (l := PySem.Challenge.rw_unlikecalls_k14_whole_plain_works) (n := 63) (k := 11) (x := "_law_script") rfl (by decide) rfl ⟨rfl, by decide, by decide⟩ (fun w h Y => PySem.W.km_in_of Y) ?F
  case F =>
    intro w mg fa h Y KX G hmg
    have hTab := PySem.W.km_tabs_of Y
    refine' K14.all_mk (zz_c_InvalidNumber := 0) (zz_c_InvalidFill := 0) (zz_c_InvalidBits := 0) KX G hmg (hTab _ List.mem_cons_self) ?cn ?ctk ?g_Fill ?pgFill ?hdFill ?poFill ?saFill ?caFill ?cmFill ?icFill ?tyFill ?mkFill ?kcFill ?suFill_NoneType ?suFill_tuple ?suFill_str ?suFill_int ?suFill_list ?suFill_bool ?suFill_dict ?sxFill_str ?sxFill_int ?sxFill_bool ?neFill ?nFill_word ?nFill_extent ?clFill ?mrFill ?cadFill ?crdFill ?oad ?ord_ ?g_Work ?pgWork ?hdWork ?poWork ?saWork ?caWork ?cmWork ?icWork ?tyWork ?mkWork ?kcWork ?suWork_NoneType ?suWork_tuple ?suWork_str ?suWork_int ?suWork_list ?suWork_bool ?suWork_dict ?sxWork_str ?sxWork_int ?sxWork_bool ?neWork ?nWork_fills ?sfWork ?sta ?str_ ?nrWork ?ta_NoneType ?tr_NoneType ?ta_tuple ?tr_tuple ?ta_str ?tr_str ?ta_int ?tr_int ?ta_list ?tr_list ?ta_bool ?tr_bool ?ta_dict ?tr_dict ?sxWork_list ?sxWork_tuple ?ga_FREE ?v_FREE ?ga_ZEROS ?v_ZEROS ?ga_SIGN ?v_SIGN ?ga_LEAST_EXTENT ?v_LEAST_EXTENT ?ga_LEAST_WIDTH ?v_LEAST_WIDTH ?ga_MOST_BITS ?v_MOST_BITS ?ga_MOST_FILLS ?v_MOST_FILLS ?b_ArithmeticError ?b_ValueError ?b_abs ?b_bool ?b_divmod ?b_enumerate ?b_int ?b_isinstance ?b_len ?b_list ?b_max ?b_min ?b_property ?b_range ?b_repr ?b_staticmethod ?b_str ?b_tuple ?g_CallError ?xl_CallError ?xt_CallError ?xsa_CallError ?xex_CallError ?xty_CallError ?xkc_CallError ?xga_CallError ?xgg_CallError ?xhd_CallError ?xic_CallError ?xm_CallError_CallError ?xm_CallError_LimitError ?xm_CallError_InvalidWork ?xm_CallError_TooMany ?xv_CallError ?g_LimitError ?xl_LimitError ?xt_LimitError ?xsa_LimitError ?xex_LimitError ?xty_LimitError ?xkc_LimitError ?xga_LimitError ?xgg_LimitError ?xhd_LimitError ?xic_LimitError ?xm_LimitError_CallError ?xm_LimitError_LimitError ?xm_LimitError_InvalidWork ?xm_LimitError_TooMany ?xv_LimitError ?g_InvalidWork ?xl_InvalidWork ?xt_InvalidWork ?xsa_InvalidWork ?xex_InvalidWork ?xty_InvalidWork ?xkc_InvalidWork ?xga_InvalidWork ?xgg_InvalidWork ?xhd_InvalidWork ?xic_InvalidWork ?xn_InvalidWork_position ?xm_InvalidWork_CallError ?xm_InvalidWork_LimitError ?xm_InvalidWork_InvalidWork ?xm_InvalidWork_TooMany ?xe_InvalidWork_CallError ?xv_InvalidWork ?g_TooMany ?xl_TooMany ?xt_TooMany ?xsa_TooMany ?xex_TooMany ?xty_TooMany ?xkc_TooMany ?xga_TooMany ?xgg_TooMany ?xhd_TooMany ?xic_TooMany ?xn_TooMany_what ?xn_TooMany_limit ?xm_TooMany_CallError ?xm_TooMany_LimitError ?xm_TooMany_InvalidWork ?xm_TooMany_TooMany ?xe_TooMany_LimitError ?xv_TooMany ?sb_Work_Fill ?nq_Work_Fill ?sb_Fill_Work ?nq_Fill_Work ?a_is_between ?l_is_between ?c_is_between ?k_is_between ?a_is_word_of ?l_is_word_of ?c_is_word_of ?k_is_word_of ?a_Fill_init ?i_Fill_init ?l_Fill_init ?c_Fill_init ?k_Fill_init ?tO_Fill ?vT_Fill ?a_Fill_word ?g_Fill_word ?t_Fill_word ?r_Fill_word ?l_Fill_word ?c_Fill_word ?k_Fill_word ?a_Fill_extent ?g_Fill_extent ?t_Fill_extent ?r_Fill_extent ?l_Fill_extent ?c_Fill_extent ?k_Fill_extent ?a_Fill_is_free ?g_Fill_is_free ?t_Fill_is_free ?r_Fill_is_free ?l_Fill_is_free ?c_Fill_is_free ?k_Fill_is_free ?a_InvalidWork_init ?i_InvalidWork_init ?t_InvalidWork_init ?l_InvalidWork_init ?c_InvalidWork_init ?k_InvalidWork_init ?a_TooMany_init ?i_TooMany_init ?t_TooMany_init ?l_TooMany_init ?c_TooMany_init ?k_TooMany_init ?a_Work_init ?i_Work_init ?l_Work_init ?c_Work_init ?k_Work_init ?a_plain_fills ?l_plain_fills ?c_plain_fills ?k_plain_fills ?a_Work_len ?i_Work_len ?l_Work_len ?c_Work_len ?k_Work_len ?a_Work_fills ?i_Work_fills ?l_Work_fills ?c_Work_fills ?k_Work_fills ?a_Work_plain ?i_Work_plain ?l_Work_plain ?c_Work_plain ?k_Work_plain ?a_Fill_eq ?i_Fill_eq ?l_Fill_eq ?c_Fill_eq ?k_Fill_eq ?a_Work_add ?i_Work_add ?l_Work_add ?c_Work_add ?k_Work_add ?a_filled ?l_filled ?c_filled ?k_filled ?a_is_bit ?l_is_bit ?c_is_bit ?k_is_bit ?a_is_list ?l_is_list ?c_is_list ?k_is_list ?a_Work_call ?i_Work_call ?n_Work_call ?l_Work_call ?c_Work_call ?k_Work_call ?a_Work_eq ?i_Work_eq ?l_Work_eq ?c_Work_eq ?k_Work_eq ?a_Work_is_like ?i_Work_is_like ?l_Work_is_like ?c_Work_is_like ?k_Work_is_like ?a_l_draw ?l_l_draw ?c_l_draw ?k_l_draw ?a_l_pick ?l_l_pick ?c_l_pick ?k_l_pick ?a_l_pot ?l_l_pot ?c_l_pot ?k_l_pot ?a_l_made ?l_l_made ?c_l_made ?k_l_made ?a_l_rows ?l_l_rows ?c_l_rows ?k_l_rows ?a_l_last ?l_l_last ?c_l_last ?k_l_last ?a_l_plain ?l_l_plain ?c_l_plain ?k_l_plain ?a_l_parts ?l_l_parts ?c_l_parts ?k_l_parts ?a_l_row ?l_l_row ?c_l_row ?k_l_row ?a_l_like ?l_l_like ?c_l_like ?k_l_like ?a_l_bent ?l_l_bent ?c_l_bent ?k_l_bent ?a_l_row_parts ?l_l_row_parts ?c_l_row_parts ?k_l_row_parts ?a_l_plain_right ?l_l_plain_right ?c_l_plain_right ?k_l_plain_right ?a_l_pair_right ?l_l_pair_right ?c_l_pair_right ?k_l_pair_right ?a_l_told ?l_l_told ?c_l_told ?k_l_told ?a_l_long ?l_l_long ?c_l_long ?k_l_long ?a_l_great_right ?l_l_great_right ?c_l_great_right ?k_l_great_right ?a_l_right ?l_l_right ?c_l_right ?k_l_right ?a_law ?l_law ?c_law ?k_law ?nP_PM ?cP_PM
    (case cn => k_is)
    (case ctk => k_is)
    (case g_Fill => k_is)
    (case pgFill => k_is)
    (case hdFill => k_is)
    (case poFill => k_is)
    (case saFill => k_is)
    (case caFill => k_is)
    (case cmFill => k_is)
    (case icFill => k_is)
    (case tyFill => k_is)
    (case mkFill => k_is)
    (case kcFill => k_is)
    (case suFill_NoneType => k_is)
    (case suFill_tuple => k_is)
    (case suFill_str => k_is)
    (case suFill_int => k_is)
    (case suFill_list => k_is)
    (case suFill_bool => k_is)
    (case suFill_dict => k_is)
    (case sxFill_str => k_is)
    (case sxFill_int => k_is)
    (case sxFill_bool => k_is)
    (case neFill => k_is)
    (case nFill_word => k_is)
    (case nFill_extent => k_is)
    (case clFill => k_is)
    (case mrFill => rfl)
    (case cadFill => k_is)
    (case crdFill => k_is)
    (case oad => k_is)
    (case ord_ => k_is)
    (case g_Work => k_is)
    (case pgWork => k_is)
    (case hdWork => k_is)
    (case poWork => k_is)
    (case saWork => k_is)
    (case caWork => k_is)
    (case cmWork => k_is)
    (case icWork => k_is)
    (case tyWork => k_is)
    (case mkWork => k_is)
    (case kcWork => k_is)
    (case suWork_NoneType => k_is)
    (case suWork_tuple => k_is)
    (case suWork_str => k_is)
    (case suWork_int => k_is)
    (case suWork_list => k_is)
    (case suWork_bool => k_is)
    (case suWork_dict => k_is)
    (case sxWork_str => k_is)
    (case sxWork_int => k_is)
    (case sxWork_bool => k_is)
    (case neWork => k_is)
    (case nWork_fills => k_is)
    (case sfWork => k_is)
    (case sta => k_is)
    (case str_ => k_is)
    (case nrWork => k_is)
    (case ta_NoneType => k_is)
    (case tr_NoneType => k_is)
    (case ta_tuple => k_is)
    (case tr_tuple => k_is)
    (case ta_str => k_is)
    (case tr_str => k_is)
    (case ta_int => k_is)
    (case tr_int => k_is)
    (case ta_list => k_is)
    (case tr_list => k_is)
    (case ta_bool => k_is)
    (case tr_bool => k_is)
    (case ta_dict => k_is)
    (case tr_dict => k_is)
    (case sxWork_list => k_is)
    (case sxWork_tuple => k_is)
    (case ga_FREE => k_is)
    (case v_FREE => exact ⟨_, rfl⟩)
    (case ga_ZEROS => k_is)
    (case v_ZEROS => exact ⟨_, rfl⟩)
    (case ga_SIGN => k_is)
    (case v_SIGN => exact ⟨_, rfl⟩)
    (case ga_LEAST_EXTENT => k_is)
    (case v_LEAST_EXTENT => exact ⟨_, rfl⟩)
    (case ga_LEAST_WIDTH => k_is)
    (case v_LEAST_WIDTH => exact ⟨_, rfl⟩)
    (case ga_MOST_BITS => k_is)
    (case v_MOST_BITS => exact ⟨_, rfl⟩)
    (case ga_MOST_FILLS => k_is)
    (case v_MOST_FILLS => exact ⟨_, rfl⟩)
    (case b_ArithmeticError => k_is)
    (case b_ValueError => k_is)
    (case b_abs => k_is)
    (case b_bool => k_is)
    (case b_divmod => k_is)
    (case b_enumerate => k_is)
    (case b_int => k_is)
    (case b_isinstance => k_is)
    (case b_len => k_is)
    (case b_list => k_is)
    (case b_max => k_is)
    (case b_min => k_is)
    (case b_property => k_is)
    (case b_range => k_is)
    (case b_repr => k_is)
    (case b_staticmethod => k_is)
    (case b_str => k_is)
    (case b_tuple => k_is)
    (case g_CallError => k_is)
    (case xl_CallError => k_is)
    (case xt_CallError => decide +kernel)
    (case xsa_CallError => k_is)
    (case xex_CallError => k_is)
    (case xty_CallError => k_is)
    (case xkc_CallError => k_is)
    (case xga_CallError => k_is)
    (case xgg_CallError => k_is)
    (case xhd_CallError => k_is)
    (case xic_CallError => k_is)
    (case xv_CallError => k_is)
    (case g_LimitError => k_is)
    (case xl_LimitError => k_is)
    (case xt_LimitError => decide +kernel)
    (case xsa_LimitError => k_is)
    (case xex_LimitError => k_is)
    (case xty_LimitError => k_is)
    (case xkc_LimitError => k_is)
    (case xga_LimitError => k_is)
    (case xgg_LimitError => k_is)
    (case xhd_LimitError => k_is)
    (case xic_LimitError => k_is)
    (case xv_LimitError => k_is)
    (case g_InvalidWork => k_is)
    (case xl_InvalidWork => k_is)
    (case xt_InvalidWork => decide +kernel)
    (case xsa_InvalidWork => k_is)
    (case xex_InvalidWork => k_is)
    (case xty_InvalidWork => k_is)
    (case xkc_InvalidWork => k_is)
    (case xga_InvalidWork => k_is)
    (case xgg_InvalidWork => k_is)
    (case xhd_InvalidWork => k_is)
    (case xic_InvalidWork => k_is)
    (case xn_InvalidWork_position => k_is)
    (case xe_InvalidWork_CallError => decide +kernel)
    (case xv_InvalidWork => k_is)
    (case g_TooMany => k_is)
    (case xl_TooMany => k_is)
    (case xt_TooMany => decide +kernel)
    (case xsa_TooMany => k_is)
    (case xex_TooMany => k_is)
    (case xty_TooMany => k_is)
    (case xkc_TooMany => k_is)
    (case xga_TooMany => k_is)
    (case xgg_TooMany => k_is)
    (case xhd_TooMany => k_is)
    (case xic_TooMany => k_is)
    (case xn_TooMany_what => k_is)
    (case xn_TooMany_limit => k_is)
    (case xe_TooMany_LimitError => decide +kernel)
    (case xv_TooMany => k_is)
    (case sb_Work_Fill => k_is)
    (case nq_Work_Fill => decide +kernel)
    (case sb_Fill_Work => k_is)
    (case nq_Fill_Work => decide +kernel)
    (case a_is_between => k_is)
    (case l_is_between => k_is)
    (case c_is_between => k_is)
    (case k_is_between => k_is)
    (case a_is_word_of => k_is)
    (case l_is_word_of => k_is)
    (case c_is_word_of => k_is)
    (case k_is_word_of => k_is)
    (case a_Fill_init => k_is)
    (case i_Fill_init => k_is)
    (case l_Fill_init => k_is)
    (case c_Fill_init => k_is)
    (case k_Fill_init => k_is)
    (case tO_Fill => k_is)
    (case vT_Fill => exact .cons ⟨_, rfl⟩ (.cons rfl .nil))
    (case a_Fill_word => k_is)
    (case g_Fill_word => k_is)
    (case t_Fill_word => k_is)
    (case r_Fill_word => k_is)
    (case l_Fill_word => k_is)
    (case c_Fill_word => k_is)
    (case k_Fill_word => k_is)
    (case a_Fill_extent => k_is)
    (case g_Fill_extent => k_is)
    (case t_Fill_extent => k_is)
    (case r_Fill_extent => k_is)
    (case l_Fill_extent => k_is)
    (case c_Fill_extent => k_is)
    (case k_Fill_extent => k_is)
    (case a_Fill_is_free => k_is)
    (case g_Fill_is_free => k_is)
    (case t_Fill_is_free => k_is)
    (case r_Fill_is_free => k_is)
    (case l_Fill_is_free => k_is)
    (case c_Fill_is_free => k_is)
    (case k_Fill_is_free => k_is)
    (case a_InvalidWork_init => k_is)
    (case i_InvalidWork_init => k_is)
    (case t_InvalidWork_init => k_is)
    (case l_InvalidWork_init => k_is)
    (case c_InvalidWork_init => k_is)
    (case k_InvalidWork_init => k_is)
    (case a_TooMany_init => k_is)
    (case i_TooMany_init => k_is)
    (case t_TooMany_init => k_is)
    (case l_TooMany_init => k_is)
    (case c_TooMany_init => k_is)
    (case k_TooMany_init => k_is)
    (case a_Work_init => k_is)
    (case i_Work_init => k_is)
    (case l_Work_init => k_is)
    (case c_Work_init => k_is)
    (case k_Work_init => k_is)
    (case a_plain_fills => k_is)
    (case l_plain_fills => k_is)
    (case c_plain_fills => k_is)
    (case k_plain_fills => k_is)
    (case a_Work_len => k_is)
    (case i_Work_len => k_is)
    (case l_Work_len => k_is)
    (case c_Work_len => k_is)
    (case k_Work_len => k_is)
    (case a_Work_fills => k_is)
    (case i_Work_fills => k_is)
    (case l_Work_fills => k_is)
    (case c_Work_fills => k_is)
    (case k_Work_fills => k_is)
    (case a_Work_plain => k_is)
    (case i_Work_plain => k_is)
    (case l_Work_plain => k_is)
    (case c_Work_plain => k_is)
    (case k_Work_plain => k_is)
    (case a_Fill_eq => k_is)
    (case i_Fill_eq => k_is)
    (case l_Fill_eq => k_is)
    (case c_Fill_eq => k_is)
    (case k_Fill_eq => k_is)
    (case a_Work_add => k_is)
    (case i_Work_add => k_is)
    (case l_Work_add => k_is)
    (case c_Work_add => k_is)
    (case k_Work_add => k_is)
    (case a_filled => k_is)
    (case l_filled => k_is)
    (case c_filled => k_is)
    (case k_filled => k_is)
    (case a_is_bit => k_is)
    (case l_is_bit => k_is)
    (case c_is_bit => k_is)
    (case k_is_bit => k_is)
    (case a_is_list => k_is)
    (case l_is_list => k_is)
    (case c_is_list => k_is)
    (case k_is_list => k_is)
    (case a_Work_call => k_is)
    (case i_Work_call => k_is)
    (case n_Work_call => k_is)
    (case l_Work_call => k_is)
    (case c_Work_call => k_is)
    (case k_Work_call => k_is)
    (case a_Work_eq => k_is)
    (case i_Work_eq => k_is)
    (case l_Work_eq => k_is)
    (case c_Work_eq => k_is)
    (case k_Work_eq => k_is)
    (case a_Work_is_like => k_is)
    (case i_Work_is_like => k_is)
    (case l_Work_is_like => k_is)
    (case c_Work_is_like => k_is)
    (case k_Work_is_like => k_is)
    (case a_l_draw => k_is)
    (case l_l_draw => k_is)
    (case c_l_draw => k_is)
    (case k_l_draw => k_is)
    (case a_l_pick => k_is)
    (case l_l_pick => k_is)
    (case c_l_pick => k_is)
    (case k_l_pick => k_is)
    (case a_l_pot => k_is)
    (case l_l_pot => k_is)
    (case c_l_pot => k_is)
    (case k_l_pot => k_is)
    (case a_l_made => k_is)
    (case l_l_made => k_is)
    (case c_l_made => k_is)
    (case k_l_made => k_is)
    (case a_l_rows => k_is)
    (case l_l_rows => k_is)
    (case c_l_rows => k_is)
    (case k_l_rows => k_is)
    (case a_l_last => k_is)
    (case l_l_last => k_is)
    (case c_l_last => k_is)
    (case k_l_last => k_is)
    (case a_l_plain => k_is)
    (case l_l_plain => k_is)
    (case c_l_plain => k_is)
    (case k_l_plain => k_is)
    (case a_l_parts => k_is)
    (case l_l_parts => k_is)
    (case c_l_parts => k_is)
    (case k_l_parts => k_is)
    (case a_l_row => k_is)
    (case l_l_row => k_is)
    (case c_l_row => k_is)
    (case k_l_row => k_is)
    (case a_l_like => k_is)
    (case l_l_like => k_is)
    (case c_l_like => k_is)
    (case k_l_like => k_is)
    (case a_l_bent => k_is)
    (case l_l_bent => k_is)
    (case c_l_bent => k_is)
    (case k_l_bent => k_is)
    (case a_l_row_parts => k_is)
    (case l_l_row_parts => k_is)
    (case c_l_row_parts => k_is)
    (case k_l_row_parts => k_is)
    (case a_l_plain_right => k_is)
    (case l_l_plain_right => k_is)
    (case c_l_plain_right => k_is)
    (case k_l_plain_right => k_is)
    (case a_l_pair_right => k_is)
    (case l_l_pair_right => k_is)
    (case c_l_pair_right => k_is)
    (case k_l_pair_right => k_is)
    (case a_l_told => k_is)
    (case l_l_told => k_is)
    (case c_l_told => k_is)
    (case k_l_told => k_is)
    (case a_l_long => k_is)
    (case l_l_long => k_is)
    (case c_l_long => k_is)
    (case k_l_long => k_is)
    (case a_l_great_right => k_is)
    (case l_l_great_right => k_is)
    (case c_l_great_right => k_is)
    (case k_l_great_right => k_is)
    (case a_l_right => k_is)
    (case l_l_right => k_is)
    (case c_l_right => k_is)
    (case k_l_right => k_is)
    (case a_law => k_is)
    (case l_law => k_is)
    (case c_law => k_is)
    (case k_law => k_is)
    (case xm_CallError_CallError => k_is)
    (case xm_CallError_LimitError => k_is)
    (case xm_CallError_InvalidWork => k_is)
    (case xm_CallError_TooMany => k_is)
    (case xm_LimitError_CallError => k_is)
    (case xm_LimitError_LimitError => k_is)
    (case xm_LimitError_InvalidWork => k_is)
    (case xm_LimitError_TooMany => k_is)
    (case xm_InvalidWork_CallError => k_is)
    (case xm_InvalidWork_LimitError => k_is)
    (case xm_InvalidWork_InvalidWork => k_is)
    (case xm_InvalidWork_TooMany => k_is)
    (case xm_TooMany_CallError => k_is)
    (case xm_TooMany_LimitError => k_is)
    (case xm_TooMany_InvalidWork => k_is)
    (case xm_TooMany_TooMany => k_is)
    (case nP_PM => kernel_rfl)
    (case cP_PM => kernel_rfl)
#print axioms PySem.Challenge.cw_unlikecalls_k14_whole_plain_works_holds

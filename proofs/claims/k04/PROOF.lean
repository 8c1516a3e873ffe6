import PyProof.Rows.All
import Wide.All
import OpenK.AllK
import Wide.FinOn
import HandS.ForMost
import HandS.Gcd
import HandS.FStr
import HandS.Style
import HandS.Wide
import HandS.Codes
import HandS.More
import HandS.IsInst
import HandS.RaiseMore
import HandS.Defaults
import HandS.WordsExc
import HandS.ExcOwn
import KE.KCallOwn
import KE.KOpsOwn
import HandS.Ends
import HandS.FStrTup
import HandS.Exc
import HandS.ExcValue
import HandS.ExcIs
import HandS.TryOnly
import HandS.CallLocal
import HandS.ClsMeth
import HandS.OwnEq
import PyProof.EqKinds
import PyProof.EqAt
import PyProof.NeKinds
import HandS.Text
import HandS.StrMore
import PyProof.Rows.StrPadWhole
import PyProof.StrLawsAffix
import PyProof.Rows.StrOr
import HandS.WideBits
import HandS.ExcInit
import PyProof.Rows.StrLawsPart
import KE.KIntText
import HandS.ExcField
import KE.KExcIs
import HandS.HeadHook1
import HandS.Comp
import KE.IntTextText
import PyProof.StrBlock2
import PyProof.Rows.StrJoinRep
import PyProof.StrLawsRepr
import HandS.Head0
import HandS.Head1
import HandS.Head2
import HandS.Head3
import HandS.HeadHook2
import HandS.HeadNt
import PySem.Challenge.RW_foldparts_k04_texts_of_ratios
set_option Elab.async false
set_option linter.all false
set_option maxRecDepth 100000
set_option maxHeartbeats 2000000
/-! Generic rules of my own: floor division by great divisors of either sign, own operators of plain instances, str() by an own __str__, repr of tuples where nothing is being written out, and promises that know of that. -/
namespace GL
open PySem PySem.Spec PyProof.Rows L2
/-! ### floor division, any divisor below 9000 bits -/
def FdC (_ j : Int) : Prop := j ≠ 0 ∧ j.natAbs.log2 < 9000
section
variable {X : Cx}
theorem op_fd : OpR X (binaryOp .FloorDiv) (rI FdC fun i j => .int (i.fdiv j)) :=
  opI fun _ _ _ _ _ _ _ hc q => floordiv_int hc.1 q (.inl (PyProof.noPylong_of_log2 hc.2))
end
/-! ### room, with nothing being written out -/
structure RG (k : Nat) (A : Around) : Prop where
  rm : Room k A
  gd : A.guards = some []
theorem RG.le {j k : Nat} {A : Around} (r : RG k A) (h : j ≤ k) : RG j A := ⟨r.rm.mono h, r.gd⟩
theorem RG.deep {k : Nat} {A : Around} (r : RG (k + 1) A) (env : Env) : RG k (A.deeper env) := ⟨r.rm.deeper env, r.gd⟩
/-- a promise that may lean on that; nothing is raised -/
def FnG (P : Program) (w : World) (K : PySem.W.Frag) (mg : Str → Option Value) (base : Heap) (k : Nat) (f : Addr) (sp : Sp) : Prop :=
  ∀ (A : Around) (out : List Env) (s : Shared) (H : Hp) (us : List Value) (vs : List V) (Q : VK), RG k A → Env0 P w K mg base A out s H → Vals vs us →
    sp vs H Q E0 → codeAny (model P w) A (.call (.ref f) ⟨us, []⟩) (CR CX0 out P w H s Q E0) s
section
variable {P : Program} {w : World} {K : PySem.W.Frag} {mg : Str → Option Value} {base : Heap} {k j : Nat} {f : Addr} {sp : Sp}
theorem FnG.le (F : FnG P w K mg base j f sp) (h : j ≤ k) : FnG P w K mg base k f sp :=
  fun A out s H us vs Q hr => F A out s H us vs Q (hr.le h)
/-- the rule for a def's body -/
theorem fng_of {name qual : Str} {params : Arguments} {body : List Stmt} {scope : Scope} {dvs : List V} {kws : List (Str × V)} {fd : FuncData} {N ps : List Str}
    (F : FunD K name qual params body scope dvs kws f fd) (S : FnScope N ps scope) (len : ∀ vs H Q E, sp vs H Q E → vs.length = ps.length) (bd : Binds K fd ps [])
    (go : ∀ (cdv : Value) (A : Around) (out : List Env) (s : Shared) (H : Hp) (vs : List V) (Q : VK), RG k (A.deeper (envOfC qual scope s.heap.objs.size f cdv)) → sp vs H Q E0 →
      ∃ t, PSs (cxOf CX0 P w K mg base N qual scope f cdv A out s H E0) body t ∧ t { nx := fun _ H' => Q .non H', rt := Q } (start N vs) H) :
    FnG P w K mg base (k + 1) f sp := by
  intro A out s H us vs Q hr e0 rv hsp
  obtain ⟨oc, od, dV, kV, doc, pm, an, cdv, ct, osl, efd, lk, hcd, _, _⟩ := F.ex
  subst efd
  have hl := len _ _ _ _ hsp
  have inK : K.In s.heap := e0.mod.kin.keeps fun b o e => (e0.bs b o e).1
  have lim : s.heap.NoLimit := e0.mod.nolimit.keeps fun b o e => (e0.bs b o e).1
  have kinds : ∀ y ∈ ps.zip us, scope.names.lookup y.1 = some .local ∨ (scope.names.lookup y.1 = some .cell ∧ ((cellsFrom (s.heap.objs.size + 1) scope.names []).lookup y.1).isSome = true) := by
    rintro ⟨n, v⟩ hy
    rcases S.par n (List.of_mem_zip hy).1 with q | q
    · exact Or.inl q
    · exact Or.inr ⟨q, PySem.W.cellsFrom_some _ _ _ (Or.inl q)⟩
  have bnd := bd s us inK (by rw [List.append_nil, ← rv.length]; exact hl)
  rw [List.append_nil] at bnd
  refine codeAny_call_function hr.rm.depth (inK _ _ lk) rfl S.co S.gen rfl (PySem.W.codeRec_of inK hcd) (bnd _ _ _ _ ?_)
  refine wpAny_newFunctionEnv_cells S.kind kinds fun env he s1 x => ?_
  subst he
  refine ⟨lim.keeps x.toInCall.keep, codeAny_func ?_⟩
  obtain ⟨t, ht, hq⟩ := go cdv A out s H vs Q (hr.deep _) hsp
  have I := inv_start (CX := CX0) (P := P) (E := E0) S hr.rm.hd e0 hl rv x
  refine wpAny_mono (ht.run [] s1 (start N vs) H _ I hq) (fun fl s' hs => ?_) (fun _ _ hs => hs)
  cases fl with
  | ret u =>
    obtain ⟨v, σ', H', J, r2, q2⟩ := hs
    exact (⟨v, H', J.os, J.bare, J.base, J.hok, r2, q2⟩ : CE out P w H s Q u s')
  | next =>
    obtain ⟨σ', H', J, q2⟩ := hs
    exact (⟨V.non, H', J.os, J.bare, J.base, J.hok, rfl, q2⟩ : CE out P w H s Q Value.none s')
  | brk =>
    obtain ⟨_, _, _, q2⟩ := hs
    exact q2.elim
  | cont =>
    obtain ⟨_, _, _, q2⟩ := hs
    exact q2.elim
end
/-! ### calls of such defs -/
section
variable {X : Cx} {k : Nat} {f : Addr} {sp : Sp} {x : Str} {p pos : Pos} {e : Expr} {es : List Expr} {t : TA}
theorem run_g {pins : List (Addr × Obj)} {σ : L2.St} {H : Hp} {s : Shared} {Q : VK} {us : List Value} {vs : List V} (F : FnG X.prog X.w X.K X.mg X.base k f sp) (hr : RG k X.A)
    (I : Inv X pins σ H s) (r : Vals vs us) (h : sp vs H Q E0) : wpAny (model X.prog X.w) X.A (call (.ref f) us) (EP X pins σ Q) X.xe s := by
  refine wpAny_call (codeAny_mono (F X.A X.stack s H us vs Q hr I.env0 r h) fun res s' hq => ?_)
  cases res with
  | error er => exact (show False from hq).elim
  | ok fl =>
    cases fl with
    | ret u => exact I.after hq
    | next => exact (show False from hq).elim
    | brk => exact (show False from hq).elim
    | cont => exact (show False from hq).elim
def tCallG (sp : Sp) (t : TA) : TE := fun σ H Q => t σ H fun vs H1 => sp vs H1 Q E0
theorem pe_callG (F : FnG X.prog X.w X.K X.mg X.base k f sp) (hr : RG k X.A) (hg : Gl X x) (hm : X.mg x = some (.ref f)) (hk : PySem.W.keepIn X.K (.ref f) = true) (ha : PA X (e :: es) t)
    (hdb : (x == ("__debug__" : Str)) = false := by decide) (he : starEach (e :: es) X.env = (false, eval e X.env) :: starEach es X.env := by rfl)
    (hpl : (backTo pos (starEach es X.env)).any (·.1) = false := by rfl) : PE X (.Call (.Name x p) (e :: es) [] pos) (tCallG sp t) := by
  refine ⟨fun pins s σ H Q I h => ?_⟩
  refine wpAny_Call_Name_kw (ld_glob I hg hm ?_ hdb)
  refine PySem.W.callWith_K (h₀ := X.base) I.ok.mod.kin hk ?_ he hpl
  refine thn (ha.run pos pins s σ H _ I h) fun us s1 hh => ?_
  obtain ⟨vs, H1, I1, r, q⟩ := hh
  exact ⟨I1.kIn, run_g F hr I1 r q⟩
end
/-! ### repr of a tuple of data -/
section
variable {X : Cx}
def rReprD (K : PySem.W.Frag) : List V → Hp → VK → Prop := fun xs H Q => ∃ (a : Addr) (d : PyData), xs = [.ref a] ∧ Dp K H (.ref a) d ∧ d.showable = true ∧ d.hasDict = false ∧ d.depth ≤ 60 ∧ d.shown.length ≤ sizeLine ∧ Q (.str d.shown) H
theorem call_reprD {k : Nat} (hr : RG k X.A) : CallR X (.builtin "repr") (rReprD X.K) := by
  intro pins s σ H xs us Q I r h
  obtain ⟨a, d, rfl, hd, hs, hn, h60, hz, q⟩ := h
  obtain ⟨u, rfl, ru⟩ := r.one
  cases (show u = Value.ref a from ru)
  obtain ⟨as, rd⟩ := Dp.reads I d (.ref a) (.ref a) hd rfl
  have hu := hr.rm.units
  refine repr_of_reads' rd hs (PyData.noDict_hsm hn) hr.gd (by omega) (fun _ _ e => e) (fun h' u tk hk => ?_) hz
  exact ⟨.str d.shown, H, I.kept hk, ⟨u, rfl⟩, q⟩
end
/-! ### own operators of plain instances -/
theorem back_ok {P : Value → Shared → Prop} {z : V} {v : Value} {s' : Shared} (r : RelV z v) (h : P v s') : PySem.W.CmpBack P v s' := by
  cases z with
  | non => cases (show v = Value.none from r); exact h
  | bl b => cases (show v = Value.bool b from r); exact h
  | int i => obtain ⟨t, rfl⟩ := (show ∃ t, v = Value.int i t from r); exact h
  | str x => obtain ⟨t, rfl⟩ := (show ∃ t, v = Value.str x t from r); exact h
  | byt b => obtain ⟨t, rfl⟩ := (show ∃ t, v = Value.bytes b t from r); exact h
  | flt b => obtain ⟨t, rfl⟩ := (show ∃ t, v = Value.float b t from r); exact h
  | ref a => cases (show v = Value.ref a from r); exact h
  | ty n => cases (show v = Value.type n from r); exact h
section
variable {X : Cx} {pins : List (Addr × Obj)} {σ : L2.St} {H : Hp} {s : Shared} {a C dx : Addr} {fs : List (Str × V)}
theorem inst_of (I : Inv X pins σ H s) (ha : H a = some (.ins C dx fs)) : ∃ ox od, PySem.W.InstAt s.heap a ox C od := by
  obtain ⟨mA, O, _⟩ := ins_get I.hok ha
  obtain ⟨od, J, _⟩ := O.look
  exact ⟨_, _, J⟩
variable {CX : CXT} {n : Nat} {g : Addr} {sp : Sp} {E : XK} {m : Str}
/-- x op y of two instances of the class at C by C's own def -/
def rOwn2 (C : Addr) (sp : Sp) (E : XK) : R2 := fun x y H Q => ∃ a dx fs b dy gs, x = .ref a ∧ y = .ref b ∧ H a = some (.ins C dx fs) ∧ H b = some (.ins C dy gs) ∧ sp [x, y] H Q E
theorem op_ownBin {op : Operator} (hc : PySem.W.selfFirst X.K C = true) (hm : Meth X.K C (PySem.dunder op.info.2) g) (F : FnR X.prog X.w X.K X.mg X.base CX n g sp) (hr : Room n X.A) (hx : Passes CX X E) :
    OpR X (binaryOp op) (rOwn2 C sp E) := by
  intro pins s σ H x y v u Q I rx ry h
  obtain ⟨a, dx, fs, b, dy, gs, rfl, rfl, ha, hb, q⟩ := h
  cases (show v = Value.ref a from rx)
  cases (show u = Value.ref b from ry)
  obtain ⟨ox, od, J⟩ := inst_of I ha
  obtain ⟨oy, oe, J'⟩ := inst_of I hb
  obtain ⟨mm, hF⟩ := I.fr
  refine PySem.W.binop_K hF I.ok.mod.kin J J'.type hc hm.at_ hm.fn ?_
  refine wpAny_mono (wpAny_call (run_fnR (us := [.ref a, .ref b]) (vs := [.ref a, .ref b]) F hr hx I (.cons rfl (.cons rfl .nil)) q)) (fun w' s' z => ?_) (fun _ _ z => z)
  obtain ⟨z', H', I', rz, qz⟩ := z
  exact back_ok rz ⟨z', H', I', rz, qz⟩
theorem op_ownCmp {op : CmpOp} (hop : ∀ a b, compareOp op a b = richCompare op a b) (hnf : PySem.W.notFirst X.K C (.ref C) = true) (hm : Meth X.K C (cmpInfo op).2.1 g)
    (F : FnR X.prog X.w X.K X.mg X.base CX n g sp) (hr : Room n X.A) (hx : Passes CX X E) : OpR X (compareOp op) (rOwn2 C sp E) := by
  intro pins s σ H x y v u Q I rx ry h
  obtain ⟨a, dx, fs, b, dy, gs, rfl, rfl, ha, hb, q⟩ := h
  cases (show v = Value.ref a from rx)
  cases (show u = Value.ref b from ry)
  obtain ⟨ox, od, J⟩ := inst_of I ha
  obtain ⟨oy, oe, J'⟩ := inst_of I hb
  obtain ⟨mm, hF⟩ := I.fr
  rw [hop]
  refine PySem.W.cmp_K (op := op) (tb := .ref C) hr.units0 hF I.ok.mod.kin J J'.type hnf hm.at_ hm.fn ?_
  refine wpAny_mono (wpAny_call (run_fnR (us := [.ref a, .ref b]) (vs := [.ref a, .ref b]) F hr hx I (.cons rfl (.cons rfl .nil)) q)) (fun w' s' z => ?_) (fun _ _ z => z)
  obtain ⟨z', H', I', rz, qz⟩ := z
  exact back_ok rz ⟨z', H', I', rz, qz⟩
/-- -x by an own def -/
def rOwn1 (C : Addr) (sp : Sp) (E : XK) : V → Hp → VK → Prop := fun x H Q => ∃ a dx fs, x = .ref a ∧ H a = some (.ins C dx fs) ∧ sp [x] H Q E
theorem un_ownNeg (hm : Meth X.K C "__neg__" g) (F : FnR X.prog X.w X.K X.mg X.base CX n g sp) (hr : Room n X.A) (hx : Passes CX X E) : UnR X (unaryOp .USub) (rOwn1 C sp E) := by
  intro pins s σ H x v Q I rx h
  obtain ⟨a, dx, fs, rfl, ha, q⟩ := h
  cases (show v = Value.ref a from rx)
  obtain ⟨ox, od, J⟩ := inst_of I ha
  obtain ⟨mm, hF⟩ := I.fr
  refine PySem.W.ksp_neg hF I.ok.mod.kin J hm.at_ hm.fn ?_
  exact wpAny_call (run_fnR (us := [.ref a]) (vs := [.ref a]) F hr hx I (.cons rfl .nil) q)
/-- str(x) by an own __str__ that gives a text -/
def rStrOwn (C : Addr) (sp : Sp) (E : XK) : List V → Hp → VK → Prop := fun xs H Q => ∃ a dx fs, xs = [.ref a] ∧ H a = some (.ins C dx fs) ∧ sp [.ref a] H (fun z H' => ∃ y, z = .str y ∧ Q z H') E
theorem env0_in2 {P : Program} {w : World} {K : PySem.W.Frag} {mg : Str → Option Value} {base : Heap} {A : Around} {out : List Env} {s : Shared} {H : Hp} (e : Env0 P w K mg base A out s H) : Env0 P w K mg base A.in1.in1 out s H := e.in1.in1
theorem call_strOwn (hm : Meth X.K C "__str__" g) (F : FnR X.prog X.w X.K X.mg X.base CX n g sp) (hr : Room (n + 2) X.A) (hx : Passes CX X E) : CallR X (.type "str") (rStrOwn C sp E) := by
  intro pins s σ H xs us Q I r h
  obtain ⟨a, dx, fs, rfl, ha, q⟩ := h
  obtain ⟨u, rfl, ru⟩ := r.one
  cases (show u = Value.ref a from ru)
  obtain ⟨ox, od, J⟩ := inst_of I ha
  have hr2 : Room n X.A.in1.in1 := (show Room (n + 1) X.A.in1 from Room.in1 hr).in1
  have hu : X.A.in1.in1.units < cLine := hr2.units0
  refine PySem.W.kso_call hu I.kIn J hm.at_ hm.fn (wpAny_call (codeAny_mono (F X.A.in1.in1 X.stack s H [.ref a] [.ref a] _ E hr2 (env0_in2 I.env0) (.cons rfl .nil) q) fun res s' hq => ?_))
  cases res with
  | error er => exact hx pins σ H s er s' I hq
  | ok fl =>
    cases fl with
    | ret u =>
      obtain ⟨v, H', I', rv, y, ey, qq⟩ := I.after hq
      subst ey
      obtain ⟨t, rfl⟩ := (show ∃ t, u = Value.str y t from rv)
      exact ⟨.str y, H', I', ⟨t, rfl⟩, qq⟩
    | next => exact (show False from hq).elim
    | brk => exact (show False from hq).elim
    | cont => exact (show False from hq).elim
end
end GL
set_option maxRecDepth 100000
set_option maxHeartbeats 2000000
namespace GL
open PySem PySem.Spec PyProof.Rows L2
/-! ### the law's call, by such a promise -/
section
variable {P : Program} {w : World} {K : PySem.W.Frag} {mg mb : Str → Option Value} {k : Nat} {fa a : Addr} {sp : Sp} {s₁ : Shared} {vs : List Value} {ns : List Int}
abbrev Done (fa : Addr) (s₁ : Shared) (r : Result) (s' : Shared) : Prop := r = .ok (.ret (.bool true)) ∧ OldK s₁.heap s'.heap ∧ s'.os = s₁.os ∧ AllBare s'.gens
/-- from an abstract heap that tracks the script at most -/
theorem law_core (KX : K.In s₁.heap) (hns : s₁.heap.Ns mainGlobals mg) (hb : s₁.heap.Ns builtinsNs mb) (hbb : ∀ x : Str, x ≠ "__name__" → mb x = bootBuiltins x) (hlim : s₁.heap.NoLimit)
    (hg : s₁.gens = #[]) (ha : s₁.heap.get? a = some { cls := .type "list", data := .seq vs.toArray }) (hr : RG k PySem.callerA)
    (F : ∀ base : Heap, K.In base → base.Ns mainGlobals mg → FnG P w K mg base k fa sp) (H : Hp) (hO : Only H) (hS : sp [.ref a] H (fun v _ => v = .bl true) E0)
    (hok : HOk P w H s₁.heap) (only : ∀ b, H b ≠ none → b = a) (hK : H a ≠ none → K.lookup a = none) :
    codeAny (model P w) PySem.callerA (.call (.ref fa) ⟨[.ref a], []⟩) (Done fa s₁) s₁ := by
  have untracked : ∀ {b : Addr} {o : Obj}, s₁.heap.get? b = some o → b ≠ a → H b = none := fun {b o} _ hba => by
    cases q : H b with
    | none => rfl
    | some u => exact absurd (only b (by rw [q]; exact Option.some_ne_none _)) hba
  have dictNe : ∀ {b : Addr} {o : Obj} {es : Array DictEntry} {ep : Nat}, s₁.heap.get? b = some o → o.data = .dict es ep → b ≠ a := fun {b o es ep} e d hba => by
    rw [hba, ha] at e
    cases e
    exact Data.noConfusion (show Data.seq vs.toArray _ = Data.dict es ep from d)
  have keepNs : ∀ {b : Addr} {m : Str → Option Value}, s₁.heap.Ns b m → (hidT s₁.heap H).Ns b m := by
    rintro b m ⟨o, es, ep, e, d, r⟩
    exact ⟨o, es, ep, hidT_get e (untracked e (dictNe e d)), d, r⟩
  have keepK : K.In (hidT s₁.heap H) := fun b o e => hidT_get (KX b o e) (by
    cases q : H b with
    | none => rfl
    | some u =>
      have hn : H b ≠ none := by rw [q]; exact Option.some_ne_none _
      have eb := only b hn
      subst eb
      rw [hK hn] at e
      cases e)
  have M : Mod K mg (hidT s₁.heap H) := by
    obtain ⟨mc, l1, l2⟩ := hlim
    exact ⟨keepK, keepNs hns, ⟨mb, keepNs hb, hbb⟩, ⟨mc, keepNs l1, l2⟩⟩
  have e0 : Env0 P w K mg (hidT s₁.heap H) PySem.callerA [] s₁ H :=
    { frames := rfl, mod := M, bs := fun b o e => of_hidT e, bsz := Nat.le_of_eq (hidT_size _ _), funs := trivial, frf := (fun b hb => nomatch (show b ∈ ([] : List Addr) from hb)), hok := hok, bare := .of_eq hg }
  refine codeAny_mono (F _ keepK (keepNs hns) PySem.callerA [] s₁ H [.ref a] [.ref a] _ hr e0 (.cons rfl .nil) hS) fun r s' h => ?_
  cases r with
  | error e => exact (show False from h).elim
  | ok fl =>
    cases fl with
    | next => exact (show False from h).elim
    | brk => exact (show False from h).elim
    | cont => exact (show False from h).elim
    | ret u =>
      obtain ⟨v, H', os, bare, un, hok', r', q⟩ := h
      have q' : v = .bl true := q
      subst q'
      cases (show u = Value.bool true from r')
      refine ⟨rfl, OldK.of_keep fun b o e => ?_, os, bare⟩
      cases q : H b with
      | none => exact un.keep b o e q (fun z => nomatch z) (fun z => nomatch z)
      | some u =>
        rcases hO b with z | ⟨ob, xs, z⟩
        · rw [q] at z
          cases z
        · have e1 := (hok b _ z).1
          have e2 := (hok' b _ (un.frzs b ob _ z)).1
          rw [e] at e1
          cases e1
          exact e2
theorem law_callG (KX : K.In s₁.heap) (hns : s₁.heap.Ns mainGlobals mg) (hb : s₁.heap.Ns builtinsNs mb) (hbb : ∀ x : Str, x ≠ "__name__" → mb x = bootBuiltins x) (hlim : s₁.heap.NoLimit)
    (hg : s₁.gens = #[]) (ha : s₁.heap.get? a = some { cls := .type "list", data := .seq vs.toArray }) (hi : IntsAre vs ns) (hl : ns.length ≤ sizeLine) (hr : RG k PySem.callerA)
    (F : ∀ base : Heap, K.In base → base.Ns mainGlobals mg → FnG P w K mg base k fa sp)
    (hsp : ∀ H : Hp, Only H → SqL K H a (ns.map V.int) → sp [.ref a] H (fun v _ => v = .bl true) E0) :
    codeAny (model P w) PySem.callerA (.call (.ref fa) ⟨[.ref a], []⟩) (Done fa s₁) s₁ := by
  have rv := vals_ints hi
  have lenV := hi.length
  cases hk : K.lookup a with
  | some o =>
    have e := KX a o hk
    rw [ha] at e
    cases e
    have sq : SqL K (fun _ => none) a (ns.map V.int) := .inr ⟨_, vs.toArray, _, hk, rfl, rfl, rfl, by rw [List.size_toArray, lenV]; exact hl, by simpa using rv⟩
    have on : Only (fun _ => none) := fun _ => .inl rfl
    exact law_core KX hns hb hbb hlim hg ha hr F (fun _ => none) on (hsp _ on sq) (fun b u z => by cases (show (none : Option HO) = some u from z)) (fun b z => absurd rfl z) (fun z => absurd rfl z)
  | none =>
    let H : Hp := fun b => if b = a then some (.frz { cls := .type "list", data := .seq vs.toArray } (.lst (ns.map V.int))) else none
    have Ha : H a = some (.frz { cls := .type "list", data := .seq vs.toArray } (.lst (ns.map V.int))) := if_pos rfl
    have Hb : ∀ b, b ≠ a → H b = none := fun b hb => if_neg hb
    have on : Only H := fun b => by
      by_cases h : b = a
      · subst h
        exact .inr ⟨_, _, Ha⟩
      · exact .inl (Hb b h)
    have sq : SqL K H a (ns.map V.int) := .inl (.inr ⟨_, Ha⟩)
    refine law_core KX hns hb hbb hlim hg ha hr F H on (hsp _ on sq) (fun b u z => ?_) (fun b z => ?_) (fun _ => hk)
    · by_cases h : b = a
      · subst h
        rw [Ha] at z
        cases z
        exact ⟨ha, by rw [List.length_map]; exact hl, vs, _, rv, ha⟩
      · rw [Hb b h] at z
        cases z
    · by_cases h : b = a
      · exact h
      · exact absurd (Hb b h) z
end
/-- the law's walk behind a head by facts -/
theorem walk_G {l : PySem.W.OpenLaw} {n k : Nat} {q : Program} {loose : List Str} {XP : (Str → Option Value) → Heap → Prop} {YP : World → Heap → Prop} {d : DefRec}
    (hn : l.most = some n) (hn2 : n ≤ sizeLine) (hdf : d.params.defaults = []) (hr : RG k PySem.callerA)
    (F : ∀ (w : World) (mg : Str → Option Value) (fa : Addr) (h : Heap), YP w h → h.Ns mainGlobals mg → mg d.name = some (.ref fa) →
      ∃ (K : PySem.W.Frag) (sp : Sp), K.In h ∧ (∀ (H : Hp) (a : Addr) (ns : List Int), ns.length ≤ n → Only H → SqL K H a (ns.map V.int) → sp [.ref a] H (fun v _ => v = .bl true) E0) ∧
        ∀ base : Heap, K.In base → base.Ns mainGlobals mg → FnG l.prog w K mg base k fa sp) :
    PySem.W.WalkO q loose XP YP l.row.toRowW d [] (fun f vs => PySem.call f vs) := by
  refine Att.attach_call hn hdf fun w s₀ s₁ mg mb fa o pm cd doc a vs ns G Y ho hd hcd hmg hobj hints hlen hg => ?_
  obtain ⟨K, sp, KX, hsp, hF⟩ := F w mg fa _ Y G.T.g hmg
  exact law_callG KX G.T.g G.T.b G.T.builtins G.T.nolimit hg hobj hints (Nat.le_trans hlen hn2) hr hF fun H hO hS => hsp H a ns hlen hO hS
theorem rg_caller : RG 60 PySem.callerA := ⟨⟨rfl, by decide, by decide⟩, rfl⟩
end GL
set_option maxRecDepth 100000
set_option maxHeartbeats 2000000
namespace GL
open PySem PySem.Spec PyProof.Rows L2 PySem.W
/-! ### x op= y where the class has no in-place def: as x op y -/
section
variable {prog : Program} {w : World} {A : Around} {E : Value → Shared → Prop} {s : Shared} {K : Frag} {x C f : Addr} {ox : Obj} {od : Option Obj}
/-- the class's order of bases is itself and object, and neither has the name -/
structure NoIn (K : Frag) (C : Addr) (nm : String) : Prop where
  mro : (clsIn K C).any (fun cd => decide (cd.mro = [.ref C, .type "object"])) = true
  no : findIn K (.ref C) (dunderI nm) = some none
  noO : findIn K (.type "object") (dunderI nm) = some none
theorem noin_looks {M : Model} {h : Heap} {nm : String} {add : Bool} (X : K.In h) (N : NoIn K C nm) : Looks M h (fillsInplaceSlot (.ref C) nm add) false := by
  obtain ⟨cd, hc, hm⟩ := any_some N.mro
  have hm := of_decide_eq_true hm
  intro A Q E s k q
  have Lm : Looks M h (mroOf (.ref C)) cd.mro := (looks_clsIn X hc).andThen (f := fun cd => pure cd.mro) .now
  unfold fillsInplaceSlot
  refine wpAny_bind (Lm A _ E s k ?_)
  rw [hm, List.anyM_cons]
  refine wpAny_bind (wpAny_bind (looks_findIn X N.no A _ E s k (wpAny_pure ?_)))
  rw [if_neg Bool.false_ne_true, List.anyM_cons]
  refine wpAny_bind (wpAny_bind (looks_findIn X N.noO A _ E s k (wpAny_pure ?_)))
  rw [if_neg Bool.false_ne_true]
  exact wpAny_pure q
theorem bin1_own {nm : String} {b : Value} {Q : Value → Shared → Prop} (X : K.In s.heap) (I : InstAt s.heap x ox C od) (hb : Looks (model prog w) s.heap (typeOf b) (.ref C)) (hc : selfFirst K C = true)
    (hs : findIn K (.ref C) (PySem.dunder nm) = some (some (.ref f))) (hf : isFn K (.ref f) = true) (h : wpAny (model prog w) A (call (.ref f) [.ref x, b]) (PySem.W.CmpBack Q) E s) :
    wpAny (model prog w) A (binaryOp1 nm (.ref x) b) (fun r s' => ∃ v, r = some v ∧ Q v s') E s := by
  obtain ⟨cd, rest, hcd, hm⟩ := ksp_first hc
  unfold binaryOp1
  refine wpAny_bind (I.type.here (wpAny_bind (hb.here (wpAny_bind ((fills_K X hcd hm hs).here ?_)))))
  simp only [beq_self_eq_true, if_true]
  refine wpAny_bind (wpAny_pure ?_)
  simp only [Bool.and_false, Bool.false_eq_true, if_false, Bool.false_and]
  refine wpAny_bind (wpAny_pure ?_)
  simp only [Bool.false_eq_true, if_false]
  refine wpAny_bind (m := tryMethod (.ref x) _ b) (wpAny_mono (ksp_try X I hs hf h) (fun r s' hr => ?_) fun _ _ e => e)
  obtain ⟨v, rfl, hq⟩ := hr
  exact wpAny_pure ⟨v, rfl, hq⟩
theorem inplace_own {op : Operator} {b : Value} {Q : Value → Shared → Prop} (X : K.In s.heap) (I : InstAt s.heap x ox C od) (hb : Looks (model prog w) s.heap (typeOf b) (.ref C)) (hc : selfFirst K C = true)
    (N : NoIn K C op.info.2) (hs : findIn K (.ref C) (PySem.dunder op.info.2) = some (some (.ref f))) (hf : isFn K (.ref f) = true) (h : wpAny (model prog w) A (call (.ref f) [.ref x, b]) (PySem.W.CmpBack Q) E s) :
    wpAny (model prog w) A (inplaceOp op (.ref x) b) Q E s := by
  unfold inplaceOp
  refine wpAny_holding (wpAny_bind (I.type.here (wpAny_bind ((noin_looks X N).here ?_))))
  simp only [Bool.false_eq_true, if_false]
  refine wpAny_bind (m := binaryOp1 _ (.ref x) b) (wpAny_mono (bin1_own X I hb hc hs hf h) (fun r s' hr => ?_) fun _ _ e => e)
  obtain ⟨v, rfl, hq⟩ := hr
  exact wpAny_pure hq
end
section
variable {X : Cx} {CX : CXT} {n : Nat} {C g : Addr} {sp : Sp} {E : XK}
theorem ip_own {op : Operator} (hc : selfFirst X.K C = true) (N : NoIn X.K C op.info.2) (hm : Meth X.K C (PySem.dunder op.info.2) g) (F : FnR X.prog X.w X.K X.mg X.base CX n g sp) (hr : Room n X.A) (hx : Passes CX X E) :
    OpR X (inplaceOp op) (rOwn2 C sp E) := by
  intro pins s σ H x y v u Q I rx ry h
  obtain ⟨a, dx, fs, b, dy, gs, rfl, rfl, ha, hb, q⟩ := h
  cases (show v = Value.ref a from rx)
  cases (show u = Value.ref b from ry)
  obtain ⟨ox, od, J⟩ := inst_of I ha
  obtain ⟨oy, oe, J'⟩ := inst_of I hb
  refine inplace_own I.kIn J J'.type hc N hm.at_ hm.fn ?_
  refine wpAny_mono (wpAny_call (run_fnR (us := [.ref a, .ref b]) (vs := [.ref a, .ref b]) F hr hx I (.cons rfl (.cons rfl .nil)) q)) (fun w' s' z => ?_) (fun _ _ z => z)
  obtain ⟨z', H', I', rz, qz⟩ := z
  exact back_ok rz ⟨z', H', I', rz, qz⟩
end
end GL
namespace MX
/-- the divisor with the bottom's sign -/
def sg (a b : Int) : Int := if b < 0 then -((Nat.gcd a.natAbs b.natAbs : Nat) : Int) else ((Nat.gcd a.natAbs b.natAbs : Nat) : Int)
def nt (a b : Int) : Int := a.fdiv (sg a b)
def nb (a b : Int) : Int := b.fdiv (sg a b)
theorem gpos {a b : Int} (h : b ≠ 0) : 0 < Nat.gcd a.natAbs b.natAbs := Nat.gcd_pos_of_pos_right _ (by omega)
theorem sg_abs (a b : Int) : (sg a b).natAbs = Nat.gcd a.natAbs b.natAbs := by
  unfold sg
  split <;> omega
theorem sg_ne {a b : Int} (h : b ≠ 0) : sg a b ≠ 0 := by
  have := gpos (a := a) h
  have := sg_abs a b
  omega
theorem sg_dvd_left (a b : Int) : sg a b ∣ a := Int.natAbs_dvd_natAbs.mp (by rw [sg_abs]; exact Nat.gcd_dvd_left _ _)
theorem sg_dvd_right (a b : Int) : sg a b ∣ b := Int.natAbs_dvd_natAbs.mp (by rw [sg_abs]; exact Nat.gcd_dvd_right _ _)
theorem nt_mul {a b : Int} (h : b ≠ 0) : nt a b * sg a b = a := by
  unfold nt
  rw [Int.fdiv_eq_ediv_of_dvd (sg_dvd_left a b)]
  exact Int.ediv_mul_cancel (sg_dvd_left a b)
theorem nb_mul {a b : Int} (h : b ≠ 0) : nb a b * sg a b = b := by
  unfold nb
  rw [Int.fdiv_eq_ediv_of_dvd (sg_dvd_right a b)]
  exact Int.ediv_mul_cancel (sg_dvd_right a b)
theorem nb_pos {a b : Int} (h : b ≠ 0) : 0 < nb a b := by
  have e := nb_mul (a := a) h
  have g := gpos (a := a) h
  by_cases hb : b < 0
  · have s : sg a b < 0 := by unfold sg; rw [if_pos hb]; omega
    apply Int.lt_of_not_ge
    intro q
    have := Int.mul_nonneg_of_nonpos_of_nonpos q (Int.le_of_lt s)
    omega
  · have s : 0 < sg a b := by unfold sg; rw [if_neg hb]; omega
    apply Int.lt_of_not_ge
    intro q
    have := Int.mul_nonpos_of_nonpos_of_nonneg q (Int.le_of_lt s)
    omega
theorem cop {a b : Int} (h : b ≠ 0) : Nat.gcd (nt a b).natAbs (nb a b).natAbs = 1 := by
  have e1 : (nt a b).natAbs * Nat.gcd a.natAbs b.natAbs = a.natAbs := by
    rw [← sg_abs, ← Int.natAbs_mul, nt_mul h]
  have e2 : (nb a b).natAbs * Nat.gcd a.natAbs b.natAbs = b.natAbs := by
    rw [← sg_abs, ← Int.natAbs_mul, nb_mul h]
  have g := gpos (a := a) h
  have e3 : Nat.gcd ((nt a b).natAbs * Nat.gcd a.natAbs b.natAbs) ((nb a b).natAbs * Nat.gcd a.natAbs b.natAbs) = Nat.gcd a.natAbs b.natAbs := by
    rw [e1, e2]
  rw [Nat.gcd_mul_right] at e3
  have e4 : Nat.gcd (nt a b).natAbs (nb a b).natAbs * Nat.gcd a.natAbs b.natAbs = 1 * Nat.gcd a.natAbs b.natAbs := by rw [e3, Nat.one_mul]
  exact Nat.eq_of_mul_eq_mul_right g e4
theorem low_cross {a b : Int} (h : b ≠ 0) : nt a b * b = a * nb a b := by
  have e1 := nt_mul (a := a) h
  have e2 := nb_mul (a := a) h
  calc nt a b * b = nt a b * (nb a b * sg a b) := by rw [e2]
    _ = (nt a b * sg a b) * nb a b := by grind
    _ = a * nb a b := by rw [e1]
/-- what is in lowest terms is told by the cross product -/
theorem uniq {p q r s : Int} (hq : 0 < q) (hs : 0 < s) (h1 : Nat.gcd p.natAbs q.natAbs = 1) (h2 : Nat.gcd r.natAbs s.natAbs = 1) (e : p * s = r * q) : p = r ∧ q = s := by
  have e' : p.natAbs * s.natAbs = r.natAbs * q.natAbs := by rw [← Int.natAbs_mul, ← Int.natAbs_mul, e]
  have d1 : q.natAbs ∣ s.natAbs := by
    have c : Nat.Coprime q.natAbs p.natAbs := by
      show Nat.gcd _ _ = 1
      rw [Nat.gcd_comm]; exact h1
    exact c.dvd_of_dvd_mul_left ⟨r.natAbs, by rw [e', Nat.mul_comm]⟩
  have d2 : s.natAbs ∣ q.natAbs := by
    have c : Nat.Coprime s.natAbs r.natAbs := by
      show Nat.gcd _ _ = 1
      rw [Nat.gcd_comm]; exact h2
    exact c.dvd_of_dvd_mul_left ⟨p.natAbs, by rw [← e', Nat.mul_comm]⟩
  have eq : q = s := by
    have := Nat.dvd_antisymm d1 d2
    omega
  subst eq
  exact ⟨Int.eq_of_mul_eq_mul_right (by omega) e, rfl⟩
theorem low_eq {a b c d : Int} (hb : b ≠ 0) (hd : d ≠ 0) (e : a * d = c * b) : nt a b = nt c d ∧ nb a b = nb c d := by
  refine uniq (nb_pos hb) (nb_pos hd) (cop hb) (cop hd) ?_
  have e1 := low_cross (a := a) hb
  have e2 := low_cross (a := c) hd
  have n1 := nb_pos (a := a) hb
  have n2 := nb_pos (a := c) hd
  -- nt a b * nb c d * (b * d) = nt c d * nb a b * (b * d)
  have k : (nt a b * nb c d) * (b * d) = (nt c d * nb a b) * (b * d) := by
    calc (nt a b * nb c d) * (b * d) = (nt a b * b) * (nb c d * d) := by grind
      _ = (a * nb a b) * (nb c d * d) := by rw [e1]
      _ = (a * d) * (nb a b * nb c d) := by grind
      _ = (c * b) * (nb a b * nb c d) := by rw [e]
      _ = (c * nb c d) * (nb a b * b) := by grind
      _ = (nt c d * d) * (nb a b * b) := by rw [e2]
      _ = (nt c d * nb a b) * (b * d) := by grind
  exact Int.eq_of_mul_eq_mul_right (Int.mul_ne_zero hb hd) k
/-- what is in lowest terms stays -/
theorem low_self {p q : Int} (hq : 0 < q) (h : Nat.gcd p.natAbs q.natAbs = 1) : nt p q = p ∧ nb p q = q := by
  have hq' : q ≠ 0 := by omega
  exact uniq (nb_pos hq') hq (cop hq') h (low_cross hq')
theorem low_low {a b : Int} (h : b ≠ 0) : nt (nt a b) (nb a b) = nt a b ∧ nb (nt a b) (nb a b) = nb a b := low_self (nb_pos h) (cop h)
theorem low_add {a b c d : Int} (hb : b ≠ 0) (hd : d ≠ 0) : nt (nt a b * nb c d + nt c d * nb a b) (nb a b * nb c d) = nt (a * d + c * b) (b * d) ∧ nb (nt a b * nb c d + nt c d * nb a b) (nb a b * nb c d) = nb (a * d + c * b) (b * d) := by
  have n1 := nb_pos (a := a) hb
  have n2 := nb_pos (a := c) hd
  have e1 := low_cross (a := a) hb
  have e2 := low_cross (a := c) hd
  refine low_eq (Int.mul_ne_zero (by omega) (by omega)) (Int.mul_ne_zero hb hd) ?_
  grind
theorem low_sub {a b c d : Int} (hb : b ≠ 0) (hd : d ≠ 0) : nt (nt a b * nb c d - nt c d * nb a b) (nb a b * nb c d) = nt (a * d - c * b) (b * d) ∧ nb (nt a b * nb c d - nt c d * nb a b) (nb a b * nb c d) = nb (a * d - c * b) (b * d) := by
  have n1 := nb_pos (a := a) hb
  have n2 := nb_pos (a := c) hd
  have e1 := low_cross (a := a) hb
  have e2 := low_cross (a := c) hd
  refine low_eq (Int.mul_ne_zero (by omega) (by omega)) (Int.mul_ne_zero hb hd) ?_
  grind
theorem low_mul {a b c d : Int} (hb : b ≠ 0) (hd : d ≠ 0) : nt (nt a b * nt c d) (nb a b * nb c d) = nt (a * c) (b * d) ∧ nb (nt a b * nt c d) (nb a b * nb c d) = nb (a * c) (b * d) := by
  have n1 := nb_pos (a := a) hb
  have n2 := nb_pos (a := c) hd
  have e1 := low_cross (a := a) hb
  have e2 := low_cross (a := c) hd
  refine low_eq (Int.mul_ne_zero (by omega) (by omega)) (Int.mul_ne_zero hb hd) ?_
  grind
theorem low_neg {a b : Int} (hb : b ≠ 0) : nt (-(nt a b)) (nb a b) = nt (0 - a) b ∧ nb (-(nt a b)) (nb a b) = nb (0 - a) b := by
  have n1 := nb_pos (a := a) hb
  have e1 := low_cross (a := a) hb
  refine low_eq (by omega) hb ?_
  grind
/-- sizes -/
theorem nt_le {a b : Int} (h : b ≠ 0) : (nt a b).natAbs ≤ a.natAbs := by
  have e : (nt a b).natAbs * Nat.gcd a.natAbs b.natAbs = a.natAbs := by rw [← sg_abs, ← Int.natAbs_mul, nt_mul h]
  rw [← e]
  exact Nat.le_mul_of_pos_right _ (gpos h)
theorem nb_le {a b : Int} (h : b ≠ 0) : (nb a b).natAbs ≤ b.natAbs := by
  have e : (nb a b).natAbs * Nat.gcd a.natAbs b.natAbs = b.natAbs := by rw [← sg_abs, ← Int.natAbs_mul, nb_mul h]
  rw [← e]
  exact Nat.le_mul_of_pos_right _ (gpos h)
theorem sg_le {a b : Int} (h : b ≠ 0) : (sg a b).natAbs ≤ b.natAbs := by
  rw [sg_abs]
  exact Nat.le_of_dvd (by omega) (Nat.gcd_dvd_right _ _)
end MX
set_option maxRecDepth 100000
set_option maxHeartbeats 2000000
namespace MX
open PySem PySem.Spec PyProof.Rows L2
/-! ### texts of ints -/
def tx (i : Int) : Str := Str.ofString (toString i)
theorem ofString_add (a b : String) : Str.ofString (a ++ b) = Str.ofString a ++ Str.ofString b := by
  rw [Str.ofString_eq_toList, Str.ofString_eq_toList, Str.ofString_eq_toList]
  show _ = Str.append _ _
  unfold Str.append
  simp [String.toList_append]
theorem tx_neg {i : Int} (h : i < 0) : Str.ofString "-" ++ tx (-i) = tx i := by
  cases i with
  | ofNat n => exact absurd h (by simp)
  | negSucc m =>
    unfold tx
    rw [← ofString_add]
    rfl
theorem join1 (a : Str) : Txt.join Str.empty [a] = a := by
  first
    | rfl
    | simp [Txt.join, glued]
theorem join2 (a b : Str) : Txt.join Str.empty [a, b] = a ++ b := by
  have e : a ++ Str.empty = a := Str.append_empty a
  have e2 : Str.empty ++ a = a := Str.empty_append a
  first
    | rfl
    | (show a ++ Str.empty ++ b = a ++ b; rw [e])
    | (simp [Txt.join, glued, e, e2])
theorem tx_len {i : Int} (h : i.natAbs.log2 < 1920) : (tx i).length ≤ sizeLine := int_text_fits h
theorem tx_len' {i : Int} (h : i.natAbs.log2 < 1920) : (tx i).length ≤ 1000000 := by
  have e := int_text_length_le (k := 1920) (by decide) h
  unfold tx
  rw [PySem.ofString_length]
  omega
/-- a ratio's text -/
def rt (t b : Int) : Str := if b = 1 then tx t else tx t ++ Str.ofString "/" ++ tx b
/-! ### sizes -/
def Bd (n : Nat) (i : Int) : Prop := i.natAbs < 2 ^ n
theorem Bd.le {m n : Nat} {i : Int} (h : Bd m i) (l : m ≤ n) : Bd n i := Nat.lt_of_lt_of_le h (Nat.pow_le_pow_right (by decide) l)
theorem Bd.mul {m n : Nat} {i j : Int} (h : Bd m i) (g : Bd n j) : Bd (m + n) (i * j) := wide_lt h g
theorem Bd.add {n : Nat} {i j : Int} (h : Bd n i) (g : Bd n j) : Bd (n + 1) (i + j) := by
  unfold Bd at *
  rw [Nat.pow_succ]
  omega
theorem Bd.neg {n : Nat} {i : Int} (h : Bd n i) : Bd n (-i) := by
  unfold Bd at *
  omega
theorem Bd.sub {n : Nat} {i j : Int} (h : Bd n i) (g : Bd n j) : Bd (n + 1) (i - j) := by
  unfold Bd at *
  rw [Nat.pow_succ]
  omega
theorem Bd.log {n m : Nat} {i : Int} (h : Bd n i) (h0 : 0 < n) (l : n ≤ m) : i.natAbs.log2 < m := Nat.lt_of_lt_of_le (PySem.Flt.log2_lt_of h0 h) l
theorem Bd.of_le {n : Nat} {i j : Int} (h : Bd n j) (l : i.natAbs ≤ j.natAbs) : Bd n i := Nat.lt_of_le_of_lt l h
theorem Bd.nt {n : Nat} {a b : Int} (h : Bd n a) (hb : b ≠ 0) : Bd n (nt a b) := h.of_le (nt_le hb)
theorem Bd.nb {n : Nat} {a b : Int} (h : Bd n b) (hb : b ≠ 0) : Bd n (nb a b) := h.of_le (nb_le hb)
theorem Bd.sg {n : Nat} {a b : Int} (h : Bd n b) (hb : b ≠ 0) : Bd n (sg a b) := h.of_le (sg_le hb)
theorem Bd.cmul {m n : Nat} {i j : Int} (h : Bd m i) (g : Bd n j) (hm : 0 < m) (hn : 0 < n) (l : m + n ≤ 1000000) : CMulW i j := wide_mul h g hm hn l
theorem Bd.lit {n : Nat} {i : Int} (h : i.natAbs < 2 ^ n) : Bd n i := h
end MX
set_option maxRecDepth 100000
set_option maxHeartbeats 4000000
namespace RT
open PySem PySem.Spec PyProof.Rows L2 GL MX
/-! ### the text -/
def top (i : Nat) : Stmt := PySem.Challenge.pw_foldparts_k04_texts_of_ratios.main.body.getD i (.Pass ⟨0, 0, 0, 0⟩)
abbrev sInit : Stmt := inClass (top 9) 0
abbrev sAdd : Stmt := inClass (top 9) 2
abbrev sSub : Stmt := inClass (top 9) 3
abbrev sMul : Stmt := inClass (top 9) 4
abbrev sNeg : Stmt := inClass (top 9) 5
abbrev sEq : Stmt := inClass (top 9) 6
abbrev sNe : Stmt := inClass (top 9) 7
abbrev sStr : Stmt := inClass (top 9) 8
abbrev sDig : Stmt := top 12
/-! ### an instance's fields -/
abbrev Rf (t b : Int) : List (Str × V) := putF "bottom" (.int b) (putF "top" (.int t) [])
theorem nbt : ¬ (("top" : Str) = "bottom") := by decide +kernel
theorem Rf_top (t b : Int) : (Rf t b).lookup ("top" : Str) = some (.int t) := by
  rw [lookup_putF, if_neg nbt, lookup_putF, if_pos rfl]
theorem Rf_bot (t b : Int) : (Rf t b).lookup ("bottom" : Str) = some (.int b) := by
  rw [lookup_putF, if_pos rfl]
theorem Rf_no (t b : Int) {m : Str} (h1 : ¬ m = "top") (h2 : ¬ m = "bottom") : (Rf t b).lookup m = none := by
  rw [lookup_putF, if_neg h2, lookup_putF, if_neg h1] <;> rfl
/-- at x stands a ratio with these fields -/
def Rat (C : Addr) (H : Hp) (x : Addr) (t b : Int) : Prop := ∃ dx, H x = some (.ins C dx (Rf t b))
theorem Rat.same {C : Addr} {H H' : Hp} {x : Addr} {t b : Int} (r : Rat C H x t b) (e : Same H H') : Rat C H' x t b := let ⟨dx, h⟩ := r; ⟨dx, e _ _ h⟩
theorem same_upd {H : Hp} {p : Addr} {o : HO} (h : H p = none) : Same H (upd H p o) := fun b u e => by
  rw [upd_ne (ne_of_none e h)]
  exact e
def Bk : Int := ((10 ^ 600 : Nat) : Int)
/-- what the written part says -/
structure Txt (K : PySem.W.Frag) (mg : Str → Option Value) (C : Addr) : Prop where
  cl : Cls K C
  nT : NoAttr K C "top"
  nB : NoAttr K C "bottom"
  mgC : mg "Ratio" = some (.ref C)
  gcd : mg "gcd" = some (.builtin "math.gcd")
  blk : ∃ t, mg "_BLOCK" = some (.int Bk t)
  len : mg "len" = none
  abs : mg "abs" = none
  max : mg "max" = none
  min : mg "min" = none
  isi : mg "isinstance" = none
  str : mg "str" = none
  repr : mg "repr" = none
  range : mg "range" = none
  sf : PySem.W.selfFirst K C = true
  nf : PySem.W.notFirst K C (.ref C) = true
  ins : C8.InsC K C
/-! ### promises -/
def spInit (C : Addr) : Sp := fun vs H Q _ => ∃ (p dx : Addr) (a b : Int), vs = [.ref p, .int a, .int b] ∧ b ≠ 0 ∧ Bd 8000 b ∧ H p = some (.ins C dx []) ∧
  Q .non (upd H p (.ins C dx (Rf (nt a b) (nb a b))))
def spDig : Sp := fun vs H Q _ => ∃ n : Int, vs = [.int n] ∧ Bd 1900 n ∧ ∀ H', Same H H' → Q (.str (tx n)) H'
def spStr (C : Addr) : Sp := fun vs H Q _ => ∃ (x : Addr) (t b : Int), vs = [.ref x] ∧ Rat C H x t b ∧ Bd 1900 t ∧ Bd 1900 b ∧ ∀ H', Same H H' → Q (.str (rt t b)) H'
section
variable {P : Program} {w : World} {K : PySem.W.Frag} {mg : Str → Option Value} {base : Heap} {C f : Addr} {fd : FuncData}
abbrev FnP (K : PySem.W.Frag) (x q : Str) (st : Stmt) (f : Addr) (fd : FuncData) : Prop := FunD K x q (defArgs st) (defBody st) (defScope st) [] [] f fd
theorem scI : FnScope ["self", "top", "bottom", "common"] ["self", "top", "bottom"] (defScope sInit) := ⟨rfl, rfl, rfl, by decide +kernel, rfl, by decide +kernel, by decide +kernel⟩
theorem ok_init (F : FnP K "__init__" "Ratio.__init__" sInit f fd) (T : Txt K mg C) : FnOk P w K mg base CX0 1 f fd ["self", "top", "bottom"] (spInit C) := by
  refine F.ok scI (fun vs H Q E h => ?_) (fun cdv A outer s H vs Q E hr h => ?_)
  · obtain ⟨p, dx, a, b, rfl, _⟩ := h
    rfl
  · obtain ⟨p, dx, a, b, rfl, hb, hz, hp, k⟩ := h
    refine ⟨_, pss_cons (ps_if (pt_cmpR op_eq (pv 2) pe_int (nomark _)) (pss_one ps_never) pss_nil)
      (pss_cons (ps_set (i := 3) scI.nd rfl (Or.inl rfl) (pe_callBfun cr_gcd rfl T.gcd (pa_cons (pv 1) (pa_cons (pv 2) pa_nil))))
      (pss_cons (ps_if (pt_cmpR op_lt (pv 2) pe_int (nomark _)) (pss_one (ps_set (i := 3) scI.nd rfl (Or.inl rfl) (pe_un un_neg (pv 3)))) pss_nil)
      (pss_cons (ps_fld (pv 0) (pe_op op_fd (pv 1) (pv 3)) rfl)
      (pss_one (ps_fld (pv 0) (pe_op op_fd (pv 2) (pv 3)) rfl))))), ?_⟩
    have hz2 := (hz.sg (a := a) hb).log (by decide) (show 8000 ≤ 9000 by decide)
    have hn := sg_ne (a := a) hb
    have fin : ∀ σ : L2.St, ∀ v : Option V, True := fun _ _ => trivial
    refine ⟨_, rfl, rfl, _, rfl, ?_⟩
    rw [decide_eq_false (show ¬ V.int b = V.int 0 from fun q => hb (V.int.inj q))]
    refine iteF ?_
    refine ⟨_, rfl, _, rfl, a, b, rfl, ?_⟩
    refine ⟨_, rfl, _, _, rfl, rfl, _, rfl, ?_⟩
    refine ite2 (fun hneg => ?_) (fun hpos => ?_)
    · have hneg := of_decide_eq_true hneg
      have es : sg a b = -((Nat.gcd a.natAbs b.natAbs : Nat) : Int) := by unfold sg; rw [if_pos hneg]
      rw [es] at hn hz2
      refine ⟨_, rfl, _, rfl, ?_⟩
      refine ⟨_, rfl, _, rfl, _, _, rfl, rfl, ⟨hn, hz2⟩, _, rfl, p, C, dx, [], rfl, hp, T.cl, T.nT, (by show 0 < 1000; decide), ?_⟩
      refine ⟨_, rfl, _, rfl, _, _, rfl, rfl, ⟨hn, hz2⟩, _, rfl, p, C, dx, _, rfl, upd_same, T.cl, T.nB, (by show 1 < 1000; decide), ?_⟩
      rw [upd_upd]
      have e1 : nt a b = a.fdiv (-((Nat.gcd a.natAbs b.natAbs : Nat) : Int)) := by unfold nt; rw [es]
      have e2 : nb a b = b.fdiv (-((Nat.gcd a.natAbs b.natAbs : Nat) : Int)) := by unfold nb; rw [es]
      rw [e1, e2] at k
      exact k
    · have hpos := of_decide_eq_false (Bool.eq_false_iff.mpr hpos)
      have es : sg a b = ((Nat.gcd a.natAbs b.natAbs : Nat) : Int) := by unfold sg; rw [if_neg hpos]
      rw [es] at hn hz2
      refine ⟨_, rfl, _, rfl, _, _, rfl, rfl, ⟨hn, hz2⟩, _, rfl, p, C, dx, [], rfl, hp, T.cl, T.nT, (by show 0 < 1000; decide), ?_⟩
      refine ⟨_, rfl, _, rfl, _, _, rfl, rfl, ⟨hn, hz2⟩, _, rfl, p, C, dx, _, rfl, upd_same, T.cl, T.nB, (by show 1 < 1000; decide), ?_⟩
      rw [upd_upd]
      have e1 : nt a b = a.fdiv ((Nat.gcd a.natAbs b.natAbs : Nat) : Int) := by unfold nt; rw [es]
      have e2 : nb a b = b.fdiv ((Nat.gcd a.natAbs b.natAbs : Nat) : Int) := by unfold nb; rw [es]
      rw [e1, e2] at k
      exact k
theorem scD : FnScope ["number", "rest", "blocks", "block"] ["number"] (defScope sDig) := ⟨rfl, rfl, rfl, by decide +kernel, rfl, by decide +kernel, by decide +kernel⟩
theorem bk_big {n : Int} (h : Bd 1900 n) : n < Bk := by
  have e : (2 : Nat) ^ 1900 ≤ 10 ^ 600 := by decide +kernel
  unfold Bd at h
  unfold Bk
  have h2 : n.natAbs < 10 ^ 600 := Nat.lt_of_lt_of_le h e
  exact Int.lt_of_le_of_lt Int.le_natAbs (Int.ofNat_lt.mpr h2)
theorem ok_dig (F : FnP K "_digits" "_digits" sDig f fd) (T : Txt K mg C) : FnOk P w K mg base CX0 1 f fd ["number"] spDig := by
  refine F.ok scD (fun vs H Q E h => ?_) (fun cdv A outer s H vs Q E hr h => ?_)
  · obtain ⟨n, rfl, _⟩ := h
    rfl
  · obtain ⟨n, rfl, hz, k⟩ := h
    obtain ⟨tb, hblk⟩ := T.blk
    refine ⟨_, PSs.nox <| pss_cons (ps_set (i := 1) scD.nd rfl (Or.inl rfl) (pe_callB call_abs (by rfl) T.abs (by decide +kernel) (pa_cons (pv 0) pa_nil)))
      (pss_cons (ps_set (i := 2) scD.nd rfl (Or.inl rfl) (pe_lst pa_nil))
      (pss_cons (ps_while PassesOwn.never (pt_cmpR op_ge (pv 1) (pe_glob (v := V.int Bk) rfl hblk ⟨_, rfl⟩) (nomark _)) (pss_cons ps_never (pss_one ps_never)))
      (pss_cons (ps_expr (pe_bm PySem.F.plainAttrs_list PySem.F.slot_list_append PySem.F.type_list_append mt_append (pv 2) (pa_cons (pe_callTy call_str_int (by rfl) T.str (by decide +kernel) (pa_cons (pv 1) pa_nil)) pa_nil)))
      (pss_cons (ps_if (pt_cmpR op_lt (pv 0) pe_int (nomark _)) (pss_one (ps_expr (pe_bm PySem.F.plainAttrs_list PySem.F.slot_list_append PySem.F.type_list_append mt_append (pv 2) (pa_cons pe_str pa_nil)))) pss_nil)
      (pss_one (ps_ret (pe_join pe_str (pe_revL (pv 2))))))))), ?_⟩
    refine ⟨_, rfl, n, rfl, Nat.zero_le _, fun l hl => ?_⟩
    have ha : Bd 1900 (if n < 0 then -n else n) := by
      split
      · exact hz.neg
      · exact hz
    have hL := bk_big ha
    have hlog := ha.log (by decide) (show 1900 ≤ 1920 by decide)
    refine while_by (fun σ H' => σ = [some (.int n), some (.int (if n < 0 then -n else n)), some (.ref l), none] ∧ H' = upd H l (.lst [])) (fun _ _ => 0) ⟨rfl, rfl⟩ ?_ ?_
    · rintro σ H' ⟨rfl, rfl⟩
      refine ⟨_, rfl, _, _, rfl, rfl, _, rfl, ?_⟩
      rw [decide_eq_false (show ¬ Bk ≤ (if n < 0 then -n else n) by omega)]
      refine iteF ?_
      refine ⟨_, rfl, .inl ⟨rfl, _, SqL.of upd_same⟩, _, rfl, _, rfl, hlog, l, _, _, rfl, rfl, upd_same, (by show 0 < sizeLine; decide), ?_⟩
      refine ⟨_, rfl, _, _, rfl, rfl, _, rfl, ?_⟩
      rw [upd_upd]
      refine ite2 (fun hneg => ?_) (fun hpos => ?_)
      · have hneg := of_decide_eq_true hneg
        have ha2 : (if n < 0 then -n else n) = -n := if_pos hneg
        refine ⟨_, rfl, .inl ⟨rfl, _, SqL.of upd_same⟩, l, _, _, rfl, rfl, upd_same, (by show 1 < sizeLine; decide), ?_⟩
        rw [upd_upd]
        refine ⟨⟨_, rfl⟩, _, rfl, l, _, rfl, SqL.of upd_same, fun p hp => ?_⟩
        have hlen := tx_len' (i := -n) (by rw [← ha2]; exact hlog)
        refine ⟨_, p, [Str.ofString "-", tx (-n)], rfl, rfl, .inl (SqL.of ?_), ?_, ?_⟩
        · rw [upd_same, ha2]
          rfl
        · show (Str.ofString "-").length + ((tx (-n)).length + 0) + 2 * 0 ≤ 16777216
          have : (Str.ofString "-").length = 1 := rfl
          omega
        · have e : Txt.join (Str.ofString "") [Str.ofString "-", tx (-n)] = tx n := (join2 _ _).trans (tx_neg hneg)
          have hs : Same H (upd (upd H l (.lst ([] ++ [V.str (tx (if n < 0 then -n else n))] ++ [V.str (Str.ofString "-")]))) p (.lst ([] ++ [V.str (tx (if n < 0 then -n else n))] ++ [V.str (Str.ofString "-")]).reverse)) :=
            (same_upd hl).trans (same_upd hp)
          rw [e]
          exact k _ hs
      · have hpos := of_decide_eq_false (Bool.eq_false_iff.mpr hpos)
        have ha2 : (if n < 0 then -n else n) = n := if_neg hpos
        refine ⟨⟨_, rfl⟩, _, rfl, l, _, rfl, SqL.of upd_same, fun p hp => ?_⟩
        have hlen := tx_len' (i := n) (by rw [← ha2]; exact hlog)
        refine ⟨_, p, [tx n], rfl, rfl, .inl (SqL.of ?_), ?_, ?_⟩
        · rw [upd_same, ha2]
          rfl
        · show (tx n).length + 0 + 1 * 0 ≤ 16777216
          omega
        · have e : Txt.join (Str.ofString "") [tx n] = tx n := join1 _
          have hs : Same H (upd (upd H l (.lst ([] ++ [V.str (tx (if n < 0 then -n else n))]))) p (.lst ([] ++ [V.str (tx (if n < 0 then -n else n))]).reverse)) :=
            (same_upd hl).trans (same_upd hp)
          rw [e]
          exact k _ hs
    · intro σ H' Q Q' hQ hc
      obtain ⟨v, hv, i, j, e1, e2, k2, e3, q⟩ := hc
      exact ⟨v, hv, i, j, e1, e2, k2, e3, hQ _ _ q⟩
/-- Ratio(a, b), a bottom that is not 0 -/
theorem made {H : Hp} {a b : Int} {Q : VK} {E : XK} (hb : b ≠ 0) (hz : Bd 8000 b) (k : ∀ x H', Same H H' → H x = none → Rat C H' x (nt a b) (nb a b) → Q (.ref x) H') :
    ∀ x dx, H x = none → H dx = none → dx ≠ x → spInit C (.ref x :: ([.int a, .int b] ++ [])) (upd (upd H dx (.own x)) x (.ins C dx [])) (fun v H2 => v = .non ∧ Q (.ref x) H2) E := by
  intro x dx hx hd hne
  refine ⟨x, dx, a, b, rfl, hb, hz, upd_same, rfl, ?_⟩
  rw [upd_upd]
  refine k x _ (fun c o e => ?_) hx ⟨dx, upd_same⟩
  rw [upd_ne (ne_of_none e hx), upd_ne (ne_of_none e hd)]
  exact e
theorem made1 {H : Hp} {a b : Int} {R : Hp → Prop} {E : XK} {x dx : Addr} (hx : H x = none) (hd : H dx = none) (hne : dx ≠ x) (hb : b ≠ 0) (hz : Bd 8000 b) (k : ∀ H', Same H H' → Rat C H' x (nt a b) (nb a b) → R H') :
    spInit C (.ref x :: ([.int a, .int b] ++ [])) (upd (upd H dx (.own x)) x (.ins C dx [])) (fun v H2 => v = .non ∧ R H2) E :=
  ⟨x, dx, a, b, rfl, hb, hz, upd_same, rfl, by
    rw [upd_upd]
    refine k _ (fun c o e => ?_) ⟨dx, upd_same⟩
    rw [upd_ne (ne_of_none e hx), upd_ne (ne_of_none e hd)]
    exact e⟩
theorem scS : FnScope ["self"] ["self"] (defScope sStr) := ⟨rfl, rfl, rfl, by decide +kernel, rfl, by decide +kernel, by decide +kernel⟩
theorem ok_str {fD : Addr} {fdD : FuncData} (F : FnP K "__str__" "Ratio.__str__" sStr f fd) (T : Txt K mg C) (gD : mg "_digits" = some (.ref fD)) (FD : FnP K "_digits" "_digits" sDig fD fdD) : FnOk P w K mg base CX0 2 f fd ["self"] (spStr C) := by
  have GD : FnOk P w K mg base CX0 1 fD fdD ["number"] spDig := ok_dig FD T
  have bD : Binds K fdD ["number"] [] := FD.bindsN fun _ _ _ _ _ _ us hl => match us, hl with | [_], _ => rfl
  refine F.ok scS (fun vs H Q E h => ?_) (fun cdv A outer s H vs Q E hr h => ?_)
  · obtain ⟨x, t, b, rfl, _⟩ := h
    rfl
  · obtain ⟨x, t, b, rfl, hx, ht, hb, k⟩ := h
    refine ⟨_, PSs.nox <| pss_cons (ps_if (pt_cmpR op_eq (pe_fld (pv 0) rfl) pe_int (nomark _))
        (pss_one (ps_ret (pe_callTy SkE.call_str_str (by rfl) T.str (by decide +kernel) (pa_cons (pe_call GD hr rfl gD FD.kp bD .nil pass0 (pa_cons (pe_fld (pv 0) rfl) pa_nil)) pa_nil)))) pss_nil)
      (pss_one (ps_ret (pe_joined (.cons (pe_fmt (pe_call GD hr rfl gD FD.kp bD .nil pass0 (pa_cons (pe_fld (pv 0) rfl) pa_nil)))
        (.cons pe_str (.cons (pe_fmt (pe_call GD hr rfl gD FD.kp bD .nil pass0 (pa_cons (pe_fld (pv 0) rfl) pa_nil))) .nil)))))), ?_⟩
    obtain ⟨dx, hX⟩ := id hx
    have lt' := ht.log (by decide) (show 1900 ≤ 1920 by decide)
    have lb' := hb.log (by decide) (show 1900 ≤ 1920 by decide)
    have zt := tx_len' lt'
    have zb := tx_len' lb'
    have zs := sizeLine_eq
    refine ⟨_, rfl, x, C, dx, _, _, rfl, hX, T.cl, T.nB, Rf_bot _ _, rfl, _, rfl, ?_⟩
    refine ite2 (fun h1 => ?_) (fun h1 => ?_)
    · have h1 := V.int.inj (of_decide_eq_true h1)
      refine ⟨_, rfl, x, C, dx, _, _, rfl, hX, T.cl, T.nT, Rf_top _ _, t, rfl, ht, fun H' hs => ?_⟩
      refine ⟨_, rfl, ?_⟩
      have e := k H' hs
      unfold rt at e
      rw [if_pos h1] at e
      exact e
    · have h1 : ¬ b = 1 := fun q => h1 (decide_eq_true (by rw [q]))
      refine ⟨_, rfl, x, C, dx, _, _, rfl, hX, T.cl, T.nT, Rf_top _ _, t, rfl, ht, fun H' hs => .inl ⟨_, rfl, by omega, ?_⟩⟩
      have e0 : Str.empty ++ tx t = tx t := Str.empty_append _
      refine ⟨_, rfl, by rw [e0]; omega, ?_⟩
      have l1 : (tx t ++ Str.ofString "/").length = (tx t).length + 1 := PySem.Str.length_append _ _
      refine ⟨_, rfl, by rw [e0]; show (tx t ++ Str.ofString "/").length ≤ _; omega, ?_⟩
      obtain ⟨dx', hX'⟩ := hx.same hs
      refine ⟨_, rfl, x, C, dx', _, _, rfl, hX', T.cl, T.nB, Rf_bot _ _, b, rfl, hb, fun H2 hs2 => .inl ⟨_, rfl, by omega, ?_⟩⟩
      have l2 : (tx t ++ Str.ofString "/" ++ tx b).length = (tx t).length + 1 + (tx b).length := (PySem.Str.length_append _ _).trans (by rw [l1])
      refine ⟨_, rfl, by rw [e0]; show (tx t ++ Str.ofString "/" ++ tx b).length ≤ _; omega, ?_⟩
      rw [e0]
      have e := k H2 (hs.trans hs2)
      unfold rt at e
      rw [if_neg h1] at e
      exact e
/-- two ratios, and what comes of them -/
def spTwo (C : Addr) (N D : Int → Int → Int → Int → Int) : Sp := fun vs H Q _ => ∃ (x y : Addr) (p q r s : Int), vs = [.ref x, .ref y] ∧ Rat C H x p q ∧ Rat C H y r s ∧ q ≠ 0 ∧ s ≠ 0 ∧ Bd 1000 p ∧ Bd 1000 q ∧ Bd 1000 r ∧ Bd 1000 s ∧
  ∀ z H', Same H H' → H z = none → Rat C H' z (nt (N p q r s) (D p q r s)) (nb (N p q r s) (D p q r s)) → Q (.ref z) H'
abbrev spAdd (C : Addr) : Sp := spTwo C (fun p q r s => p * s + r * q) (fun p q r s => q * s)
abbrev spSub (C : Addr) : Sp := spTwo C (fun p q r s => p * s - r * q) (fun p q r s => q * s)
abbrev spMul (C : Addr) : Sp := spTwo C (fun p q r s => p * r) (fun p q r s => q * s)
def spNeg (C : Addr) : Sp := fun vs H Q _ => ∃ (x : Addr) (p q : Int), vs = [.ref x] ∧ Rat C H x p q ∧ q ≠ 0 ∧ Bd 1000 q ∧
  ∀ z H', Same H H' → H z = none → Rat C H' z (nt (-p) q) (nb (-p) q) → Q (.ref z) H'
def spEq (C : Addr) : Sp := fun vs H Q _ => ∃ (x y : Addr) (p q r s : Int), vs = [.ref x, .ref y] ∧ Rat C H x p q ∧ Rat C H y r s ∧ Q (.bl (decide (p = r) && decide (q = s))) H
def spNe (C : Addr) : Sp := fun vs H Q _ => ∃ (x y : Addr) (p q r s : Int), vs = [.ref x, .ref y] ∧ Rat C H x p q ∧ Rat C H y r s ∧ Q (.bl (!(decide (p = r) && decide (q = s)))) H
theorem big8 {m n : Nat} {i j : Int} (h : Bd 1000 i) (g : Bd 1000 j) : Bd 8000 (i * j) := (h.mul g).le (by decide)
theorem cm {i j : Int} (h : Bd 1000 i) (g : Bd 1000 j) : CMulW i j := h.cmul g (by decide) (by decide) (by decide)
theorem scOp {st : Stmt} (h : FnScope ["self", "other"] ["self", "other"] (defScope st)) : FnScope ["self", "other"] ["self", "other"] (defScope st) := h
theorem scAdd : FnScope ["self", "other"] ["self", "other"] (defScope sAdd) := ⟨rfl, rfl, rfl, by decide +kernel, rfl, by decide +kernel, by decide +kernel⟩
theorem scSub : FnScope ["self", "other"] ["self", "other"] (defScope sSub) := ⟨rfl, rfl, rfl, by decide +kernel, rfl, by decide +kernel, by decide +kernel⟩
theorem scMul : FnScope ["self", "other"] ["self", "other"] (defScope sMul) := ⟨rfl, rfl, rfl, by decide +kernel, rfl, by decide +kernel, by decide +kernel⟩
theorem scNeg : FnScope ["self"] ["self"] (defScope sNeg) := ⟨rfl, rfl, rfl, by decide +kernel, rfl, by decide +kernel, by decide +kernel⟩
theorem scEq : FnScope ["self", "other"] ["self", "other"] (defScope sEq) := ⟨rfl, rfl, rfl, by decide +kernel, rfl, by decide +kernel, by decide +kernel⟩
theorem scNe : FnScope ["self", "other"] ["self", "other"] (defScope sNe) := ⟨rfl, rfl, rfl, by decide +kernel, rfl, by decide +kernel, by decide +kernel⟩
theorem ok_add {fI : Addr} {fdI : FuncData} (F : FnP K "__add__" "Ratio.__add__" sAdd f fd) (T : Txt K mg C) (M : Mk K C fI) (FI : FnP K "__init__" "Ratio.__init__" sInit fI fdI) : FnOk P w K mg base CX0 3 f fd ["self", "other"] (spAdd C) := by
  have GI : FnOk P w K mg base CX0 1 fI fdI ["self", "top", "bottom"] (spInit C) := ok_init FI T
  have bI : Binds K fdI ["self", "top", "bottom"] [] := FI.bindsN fun _ _ _ _ _ _ us hl => match us, hl with | [_, _, _], _ => rfl
  refine F.ok scAdd (fun vs H Q E h => ?_) (fun cdv A outer s H vs Q E hr h => ?_)
  · obtain ⟨x, y, p, q, r, s, rfl, _⟩ := h
    rfl
  · obtain ⟨x, y, p, q, r, s, rfl, hx, hy, hq, hs, bp, bq, br, bs, k⟩ := h
    obtain ⟨dx, hX⟩ := id hx
    obtain ⟨dy, hY⟩ := id hy
    refine ⟨_, PSs.nox <| pss_one (ps_ret (pe_make M GI hr rfl T.mgC bI .nil pass0 (pa_cons
      (pe_op op_add (pe_op op_mulW (pe_fld (pv 0) rfl) (pe_fld (pv 1) rfl)) (pe_op op_mulW (pe_fld (pv 1) rfl) (pe_fld (pv 0) rfl)))
      (pa_cons (pe_op op_mulW (pe_fld (pv 0) rfl) (pe_fld (pv 1) rfl)) pa_nil)))), ?_⟩
    refine ⟨_, rfl, x, C, dx, _, _, rfl, hX, T.cl, T.nT, Rf_top _ _, _, rfl, y, C, dy, _, _, rfl, hY, T.cl, T.nB, Rf_bot _ _, _, _, rfl, rfl, cm bp bs, ?_⟩
    refine ⟨_, rfl, y, C, dy, _, _, rfl, hY, T.cl, T.nT, Rf_top _ _, _, rfl, x, C, dx, _, _, rfl, hX, T.cl, T.nB, Rf_bot _ _, _, _, rfl, rfl, cm br bq, _, _, rfl, rfl, ?_⟩
    refine ⟨_, rfl, x, C, dx, _, _, rfl, hX, T.cl, T.nB, Rf_bot _ _, _, rfl, y, C, dy, _, _, rfl, hY, T.cl, T.nB, Rf_bot _ _, _, _, rfl, rfl, cm bq bs, ?_⟩
    exact made (Int.mul_ne_zero hq hs) (big8 (m := 0) (n := 0) bq bs) k
theorem ok_sub {fI : Addr} {fdI : FuncData} (F : FnP K "__sub__" "Ratio.__sub__" sSub f fd) (T : Txt K mg C) (M : Mk K C fI) (FI : FnP K "__init__" "Ratio.__init__" sInit fI fdI) : FnOk P w K mg base CX0 3 f fd ["self", "other"] (spSub C) := by
  have GI : FnOk P w K mg base CX0 1 fI fdI ["self", "top", "bottom"] (spInit C) := ok_init FI T
  have bI : Binds K fdI ["self", "top", "bottom"] [] := FI.bindsN fun _ _ _ _ _ _ us hl => match us, hl with | [_, _, _], _ => rfl
  refine F.ok scSub (fun vs H Q E h => ?_) (fun cdv A outer s H vs Q E hr h => ?_)
  · obtain ⟨x, y, p, q, r, s, rfl, _⟩ := h
    rfl
  · obtain ⟨x, y, p, q, r, s, rfl, hx, hy, hq, hs, bp, bq, br, bs, k⟩ := h
    obtain ⟨dx, hX⟩ := id hx
    obtain ⟨dy, hY⟩ := id hy
    refine ⟨_, PSs.nox <| pss_one (ps_ret (pe_make M GI hr rfl T.mgC bI .nil pass0 (pa_cons
      (pe_op op_sub (pe_op op_mulW (pe_fld (pv 0) rfl) (pe_fld (pv 1) rfl)) (pe_op op_mulW (pe_fld (pv 1) rfl) (pe_fld (pv 0) rfl)))
      (pa_cons (pe_op op_mulW (pe_fld (pv 0) rfl) (pe_fld (pv 1) rfl)) pa_nil)))), ?_⟩
    refine ⟨_, rfl, x, C, dx, _, _, rfl, hX, T.cl, T.nT, Rf_top _ _, _, rfl, y, C, dy, _, _, rfl, hY, T.cl, T.nB, Rf_bot _ _, _, _, rfl, rfl, cm bp bs, ?_⟩
    refine ⟨_, rfl, y, C, dy, _, _, rfl, hY, T.cl, T.nT, Rf_top _ _, _, rfl, x, C, dx, _, _, rfl, hX, T.cl, T.nB, Rf_bot _ _, _, _, rfl, rfl, cm br bq, _, _, rfl, rfl, ?_⟩
    refine ⟨_, rfl, x, C, dx, _, _, rfl, hX, T.cl, T.nB, Rf_bot _ _, _, rfl, y, C, dy, _, _, rfl, hY, T.cl, T.nB, Rf_bot _ _, _, _, rfl, rfl, cm bq bs, ?_⟩
    exact made (Int.mul_ne_zero hq hs) (big8 (m := 0) (n := 0) bq bs) k
theorem ok_mul {fI : Addr} {fdI : FuncData} (F : FnP K "__mul__" "Ratio.__mul__" sMul f fd) (T : Txt K mg C) (M : Mk K C fI) (FI : FnP K "__init__" "Ratio.__init__" sInit fI fdI) : FnOk P w K mg base CX0 3 f fd ["self", "other"] (spMul C) := by
  have GI : FnOk P w K mg base CX0 1 fI fdI ["self", "top", "bottom"] (spInit C) := ok_init FI T
  have bI : Binds K fdI ["self", "top", "bottom"] [] := FI.bindsN fun _ _ _ _ _ _ us hl => match us, hl with | [_, _, _], _ => rfl
  refine F.ok scMul (fun vs H Q E h => ?_) (fun cdv A outer s H vs Q E hr h => ?_)
  · obtain ⟨x, y, p, q, r, s, rfl, _⟩ := h
    rfl
  · obtain ⟨x, y, p, q, r, s, rfl, hx, hy, hq, hs, bp, bq, br, bs, k⟩ := h
    obtain ⟨dx, hX⟩ := id hx
    obtain ⟨dy, hY⟩ := id hy
    refine ⟨_, PSs.nox <| pss_one (ps_ret (pe_make M GI hr rfl T.mgC bI .nil pass0 (pa_cons
      (pe_op op_mulW (pe_fld (pv 0) rfl) (pe_fld (pv 1) rfl))
      (pa_cons (pe_op op_mulW (pe_fld (pv 0) rfl) (pe_fld (pv 1) rfl)) pa_nil)))), ?_⟩
    refine ⟨_, rfl, x, C, dx, _, _, rfl, hX, T.cl, T.nT, Rf_top _ _, _, rfl, y, C, dy, _, _, rfl, hY, T.cl, T.nT, Rf_top _ _, _, _, rfl, rfl, cm bp br, ?_⟩
    refine ⟨_, rfl, x, C, dx, _, _, rfl, hX, T.cl, T.nB, Rf_bot _ _, _, rfl, y, C, dy, _, _, rfl, hY, T.cl, T.nB, Rf_bot _ _, _, _, rfl, rfl, cm bq bs, ?_⟩
    exact made (Int.mul_ne_zero hq hs) (big8 (m := 0) (n := 0) bq bs) k
theorem ok_neg {fI : Addr} {fdI : FuncData} (F : FnP K "__neg__" "Ratio.__neg__" sNeg f fd) (T : Txt K mg C) (M : Mk K C fI) (FI : FnP K "__init__" "Ratio.__init__" sInit fI fdI) : FnOk P w K mg base CX0 3 f fd ["self"] (spNeg C) := by
  have GI : FnOk P w K mg base CX0 1 fI fdI ["self", "top", "bottom"] (spInit C) := ok_init FI T
  have bI : Binds K fdI ["self", "top", "bottom"] [] := FI.bindsN fun _ _ _ _ _ _ us hl => match us, hl with | [_, _, _], _ => rfl
  refine F.ok scNeg (fun vs H Q E h => ?_) (fun cdv A outer s H vs Q E hr h => ?_)
  · obtain ⟨x, p, q, rfl, _⟩ := h
    rfl
  · obtain ⟨x, p, q, rfl, hx, hq, bq, k⟩ := h
    obtain ⟨dx, hX⟩ := id hx
    refine ⟨_, PSs.nox <| pss_one (ps_ret (pe_make M GI hr rfl T.mgC bI .nil pass0 (pa_cons (pe_un un_neg (pe_fld (pv 0) rfl)) (pa_cons (pe_fld (pv 0) rfl) pa_nil)))), ?_⟩
    refine ⟨_, rfl, x, C, dx, _, _, rfl, hX, T.cl, T.nT, Rf_top _ _, _, rfl, ?_⟩
    refine ⟨_, rfl, x, C, dx, _, _, rfl, hX, T.cl, T.nB, Rf_bot _ _, ?_⟩
    exact made hq (bq.le (by decide)) k
theorem dec_int (p r : Int) : decide (V.int p = V.int r) = decide (p = r) := by
  by_cases h : p = r
  · rw [h]
    simp
  · rw [decide_eq_false h, decide_eq_false (fun q => h (V.int.inj q))]
theorem ok_eq (F : FnP K "__eq__" "Ratio.__eq__" sEq f fd) (T : Txt K mg C) : FnOk P w K mg base CX0 1 f fd ["self", "other"] (spEq C) := by
  refine F.ok scEq (fun vs H Q E h => ?_) (fun cdv A outer s H vs Q E hr h => ?_)
  · obtain ⟨x, y, p, q, r, s, rfl, _⟩ := h
    rfl
  · obtain ⟨x, y, p, q, r, s, rfl, hx, hy, k⟩ := h
    obtain ⟨dx, hX⟩ := id hx
    obtain ⟨dy, hY⟩ := id hy
    refine ⟨_, PSs.nox <| pss_one (ps_ret (pe_and (pe_callB (C8.call_isC T.ins) (by rfl) T.isi (by decide +kernel) (pa_cons (pv 1) (pa_cons (pe_glob (v := V.ref C) rfl T.mgC rfl) pa_nil)))
      (pe_and (pe_cmpR op_eq (pe_fld (pv 0) rfl) (pe_fld (pv 1) rfl) (nomark _)) (pe_one (pe_cmpR op_eq (pe_fld (pv 0) rfl) (pe_fld (pv 1) rfl) (nomark _)))))), ?_⟩
    refine ⟨_, rfl, y, dy, _, rfl, hY, _, rfl, ?_⟩
    refine iteT ?_
    refine ⟨_, rfl, x, C, dx, _, _, rfl, hX, T.cl, T.nT, Rf_top _ _, _, rfl, y, C, dy, _, _, rfl, hY, T.cl, T.nT, Rf_top _ _, rfl, _, rfl, ?_⟩
    rw [dec_int]
    cases e : decide (p = r) with
    | false =>
      rw [e] at k
      exact iteF k
    | true =>
      rw [e] at k
      refine iteT ?_
      refine ⟨_, rfl, x, C, dx, _, _, rfl, hX, T.cl, T.nB, Rf_bot _ _, _, rfl, y, C, dy, _, _, rfl, hY, T.cl, T.nB, Rf_bot _ _, rfl, ?_⟩
      rw [dec_int]
      exact k
theorem ok_ne {fE : Addr} {fdE : FuncData} (F : FnP K "__ne__" "Ratio.__ne__" sNe f fd) (T : Txt K mg C) (mE : Meth K C "__eq__" fE) (FE : FnP K "__eq__" "Ratio.__eq__" sEq fE fdE) : FnOk P w K mg base CX0 2 f fd ["self", "other"] (spNe C) := by
  have GE : FnOk P w K mg base CX0 1 fE fdE ["self", "other"] (spEq C) := ok_eq FE T
  have bE : Binds K fdE ["self", "other"] [] := FE.bindsN fun _ _ _ _ _ _ us hl => match us, hl with | [_, _], _ => rfl
  refine F.ok scNe (fun vs H Q E h => ?_) (fun cdv A outer s H vs Q E hr h => ?_)
  · obtain ⟨x, y, p, q, r, s, rfl, _⟩ := h
    rfl
  · obtain ⟨x, y, p, q, r, s, rfl, hx, hy, k⟩ := h
    obtain ⟨dx, hX⟩ := id hx
    obtain ⟨dy, hY⟩ := id hy
    refine ⟨_, PSs.nox <| pss_one (ps_ret (pe_not (pe_cmpR (op_ownCmp (op := .Eq) (fun _ _ => rfl) T.nf mE (GE.raw bE .nil) hr pass0) (pv 0) (pv 1) (nomark _)))), ?_⟩
    exact ⟨_, rfl, _, rfl, x, dx, _, y, dy, _, rfl, rfl, hX, hY, x, y, p, q, r, s, rfl, hx, hy, _, rfl, k⟩
end
end RT
set_option maxRecDepth 100000
set_option maxHeartbeats 4000000
namespace RT
open PySem PySem.Spec PyProof.Rows L2 GL MX
abbrev sFeed : Stmt := top 14
abbrev sTake : Stmt := top 15
abbrev sPick : Stmt := top 16
abbrev sInteger : Stmt := top 17
abbrev sPair : Stmt := top 18
abbrev sLowest : Stmt := top 19
abbrev sText : Stmt := top 20
abbrev sIs : Stmt := top 21
/-- the draws' list -/
def Feed (H : Hp) (a : Addr) : Prop := ∃ d s : Int, H a = some (.lst [.int d, .int s])
/-- all but a is as it was -/
def But (a : Addr) (H H' : Hp) : Prop := ∀ b o, b ≠ a → H b = some o → H' b = some o
theorem But.of {a : Addr} {H H' : Hp} (h : Same H H') : But a H H' := fun b o _ e => h b o e
theorem But.trans {a : Addr} {H H1 H2 : Hp} (x : But a H H1) (y : But a H1 H2) : But a H H2 := fun b o n e => y b o n (x b o n e)
theorem But.upd {a : Addr} {H : Hp} {o : HO} : But a H (upd H a o) := fun b u n e => by rw [upd_ne n]; exact e
theorem But.same {a : Addr} {H0 H H' : Hp} (x : But a H H') (s : Same H0 H) (n : H0 a = none) : Same H0 H' := fun b o e => x b o (ne_of_none e n) (s b o e)
def spFeed (K : PySem.W.Frag) : Sp := fun vs H Q _ => ∃ (a : Addr) (ns : List Int) (k : Nat), vs = [.ref a, .int k] ∧ SqL K H a (ns.map V.int) ∧ k < 1000 ∧
  ∀ p H', H p = none → Same H H' → Feed H' p → Q (.ref p) H'
def spTake : Sp := fun vs H Q _ => ∃ (a : Addr) (m : Int), vs = [.ref a, .int m] ∧ Feed H a ∧ 0 < m ∧ m.natAbs < 2 ^ 60 ∧ ∀ (r : Int) H', 0 ≤ r → r < m → But a H H' → Feed H' a → Q (.int r) H'
def spPick : Sp := fun vs H Q _ => ∃ (a l : Addr) (xs : List V), vs = [.ref a, .ref l] ∧ Feed H a ∧ l ≠ a ∧ H l = some (.lst xs) ∧ 0 < xs.length ∧ xs.length < 1000 ∧
  ∀ (v : V) H', v ∈ xs → But a H H' → Feed H' a → Q v H'
def spInteger : Sp := fun vs H Q _ => ∃ a : Addr, vs = [.ref a] ∧ Feed H a ∧ ∀ (n : Int) H', Bd 70 n → But a H H' → Feed H' a → Q (.int n) H'
def spPair : Sp := fun vs H Q _ => ∃ a : Addr, vs = [.ref a] ∧ Feed H a ∧ ∀ (x y : Int) p H', Bd 70 x → Bd 70 y → y ≠ 0 → But a H H' → Feed H' a → H' p = some (.tup [.int x, .int y]) → Q (.ref p) H'
def spLowest : Sp := fun vs H Q _ => ∃ a b : Int, vs = [.int a, .int b] ∧ b ≠ 0 ∧ Bd 8000 a ∧ Bd 8000 b ∧ ∀ p H', Same H H' → H' p = some (.tup [.int (nt a b), .int (nb a b)]) → Q (.ref p) H'
def spText : Sp := fun vs H Q _ => ∃ a b : Int, vs = [.int a, .int b] ∧ b ≠ 0 ∧ Bd 1900 a ∧ Bd 1900 b ∧ ∀ H', Same H H' → Q (.str (rt (nt a b) (nb a b))) H'
section
variable {P : Program} {w : World} {K : PySem.W.Frag} {mg : Str → Option Value} {base : Heap} {C f : Addr} {fd : FuncData}
theorem scFeed : FnScope ["script", "k", "cell", "digits", "state"] ["script", "k"] (defScope sFeed) := ⟨rfl, rfl, rfl, by decide +kernel, rfl, by decide +kernel, by decide +kernel⟩
theorem ok_feed (F : FnP K "_law_feed" "_law_feed" sFeed f fd) (T : Txt K mg C) : FnOk P w K mg base CX0 1 f fd ["script", "k"] (spFeed K) := by
  refine F.ok scFeed (fun vs H Q E h => ?_) (fun cdv A outer s H vs Q E hr h => ?_)
  · obtain ⟨a, ns, k, rfl, _⟩ := h
    rfl
  · obtain ⟨a, ns, k, rfl, hS, hk, q⟩ := h
    refine ⟨_, PSs.nox <| C8.pss_cut (ps_set (i := 2) scFeed.nd rfl (Or.inl rfl) (pe_ifExp (pt_cmpR op_lt (pv 1) (pe_callB call_len_seq (by rfl) T.len PySem.boot_len (pa_cons (pv 0) pa_nil)) (nomark _))
        (pe_ix ix_list (pv 0) (pv 1) (fun _ _ => rfl)) (pe_op op_add (pe_op op_mul pe_int (pv 1)) pe_int)))
      (pss_cons (ps_set (i := 3) scFeed.nd rfl (Or.inl rfl) (pe_callB (call_max2 rfl) (by rfl) T.max (by decide +kernel) (pa_cons pe_int (pa_cons (pe_op op_sub (pe_callB call_abs (by rfl) T.abs (by decide +kernel) (pa_cons (pv 2) pa_nil)) (pe_op op_pow pe_int pe_int)) pa_nil))))
      (pss_cons (ps_set (i := 4) scFeed.nd rfl (Or.inl rfl) (pe_op op_mod (pe_op op_add (pe_op op_add (pe_op op_mul (pv 2) pe_int) (pe_op op_mul pe_int (pv 1))) pe_int) pe_int))
      (pss_one (ps_ret (pe_lst (pa_cons (pv 3) (pa_cons (pv 4) pa_nil))))))), ?_⟩
    refine ⟨fun σ' H' => H' = H ∧ ∃ c : Int, σ' = [some (.ref a), some (.int k), some (.int c), none, none], ?_, ?_⟩
    · refine ⟨_, rfl, _, rfl, a, _, rfl, .inl hS, _, _, rfl, rfl, _, rfl, ?_⟩
      refine ite2 (fun h1 => ?_) (fun h1 => ?_)
      · have h1 := of_decide_eq_true h1
        rw [List.length_map] at h1
        have hk2 : k < ns.length := by omega
        have hi : (ns.map V.int)[k]? = some (V.int ns[k]) := by rw [List.getElem?_map, List.getElem?_eq_getElem hk2] <;> rfl
        exact ⟨_, rfl, _, rfl, a, _, _, _, rfl, rfl, hS, atI_nat hi, rfl, _, rfl⟩
      · exact ⟨_, rfl, _, _, rfl, rfl, (by right; constructor <;> omega), _, _, rfl, rfl, rfl, _, rfl⟩
    · rintro σ' H' ⟨rfl, c, rfl⟩
      refine ⟨_, rfl, _, rfl, ?_⟩
      refine ⟨_, _, rfl, rfl, (by refine ⟨by decide, by decide, by decide⟩), _, _, rfl, rfl, _, _, rfl, ?_⟩
      refine ⟨_, rfl, _, _, rfl, rfl, (by right; decide), ?_⟩
      refine ⟨_, rfl, _, _, rfl, rfl, (by left; decide), _, _, rfl, rfl, _, _, rfl, rfl, _, _, rfl, rfl, (by show (0 : Int) < 2305843009213693951; decide), ?_⟩
      refine ⟨_, rfl, _, rfl, (by show 2 ≤ sizeLine; decide), fun p hp => ?_⟩
      exact q p _ hp (same_upd hp) ⟨_, _, upd_same⟩
theorem scTake : FnScope ["feed", "many", "digit"] ["feed", "many"] (defScope sTake) := ⟨rfl, rfl, rfl, by decide +kernel, rfl, by decide +kernel, by decide +kernel⟩
theorem at0 {x y : V} : atI [x, y] 0 = some x := rfl
theorem at1 {x y : V} : atI [x, y] 1 = some y := rfl
theorem ok_take (F : FnP K "_law_take" "_law_take" sTake f fd) : FnOk P w K mg base CX0 1 f fd ["feed", "many"] spTake := by
  refine F.ok scTake (fun vs H Q E h => ?_) (fun cdv A outer s H vs Q E hr h => ?_)
  · obtain ⟨a, m, rfl, _⟩ := h
    rfl
  · obtain ⟨a, m, rfl, ⟨d, t, hF⟩, hm, hz, q⟩ := h
    have ix : ∀ j : Nat, True := fun _ => trivial
    refine ⟨_, PSs.nox <| pss_cons (ps_if (pt_cmpR op_gt (pe_ix ix_list (pv 0) pe_int (fun _ _ => rfl)) pe_int (nomark _))
        (pss_cons (ps_set (i := 2) scTake.nd rfl (Or.inl rfl) (pe_op op_mod (pe_ix ix_list (pv 0) pe_int (fun _ _ => rfl)) (pv 1)))
        (pss_cons (ps_asg (pe_op op_fdivW (pe_ix ix_list (pv 0) pe_int (fun _ _ => rfl)) (pv 1)) (pg_sub (pv 0) pe_int set_list))
        (pss_one (ps_ret (pv 2))))) pss_nil)
      (pss_cons (ps_asg (pe_op op_mod (pe_op op_add (pe_op op_mul (pe_ix ix_list (pv 0) pe_int (fun _ _ => rfl)) pe_int) pe_int) pe_int) (pg_sub (pv 0) pe_int set_list))
      (pss_one (ps_ret (pe_op op_mod (pe_op op_fdiv (pe_ix ix_list (pv 0) pe_int (fun _ _ => rfl)) pe_int) (pv 1))))), ?_⟩
    refine ⟨_, rfl, a, _, _, _, rfl, rfl, SqL.of hF, at0, _, _, rfl, rfl, _, rfl, ?_⟩
    refine ite2 (fun h1 => ?_) (fun h1 => ?_)
    · refine ⟨_, rfl, a, _, _, _, rfl, rfl, SqL.of hF, at0, _, rfl, _, _, rfl, rfl, hm, ?_⟩
      refine ⟨_, rfl, a, _, _, _, rfl, rfl, SqL.of hF, at0, _, rfl, _, _, rfl, rfl, wide_div hm hz (by decide) (by decide), _, rfl, a, _, _, 0, rfl, rfl, hF, rfl, ?_⟩
      exact ⟨_, rfl, q _ _ (Int.emod_nonneg _ (by omega)) (Int.emod_lt_of_pos _ hm) But.upd ⟨_, _, upd_same⟩⟩
    · refine ⟨_, rfl, a, _, _, _, rfl, rfl, SqL.of hF, at1, _, _, rfl, rfl, (by right; decide), _, _, rfl, rfl, _, _, rfl, rfl, (by show (0 : Int) < 2305843009213693951; decide), _, rfl, a, _, _, 1, rfl, rfl, hF, rfl, ?_⟩
      refine ⟨_, rfl, a, _, _, _, rfl, rfl, SqL.of upd_same, at1, _, _, rfl, rfl, ⟨by decide, by decide⟩, _, rfl, _, _, rfl, rfl, hm, ?_⟩
      exact q _ _ (Int.emod_nonneg _ (by omega)) (Int.emod_lt_of_pos _ hm) But.upd ⟨_, _, upd_same⟩
theorem scPick : FnScope ["feed", "some"] ["feed", "some"] (defScope sPick) := ⟨rfl, rfl, rfl, by decide +kernel, rfl, by decide +kernel, by decide +kernel⟩
theorem ok_pick {fT : Addr} {fdT : FuncData} (F : FnP K "_law_pick" "_law_pick" sPick f fd) (T : Txt K mg C) (gT : mg "_law_take" = some (.ref fT)) (FT : FnP K "_law_take" "_law_take" sTake fT fdT) : FnOk P w K mg base CX0 2 f fd ["feed", "some"] spPick := by
  have GT : FnOk P w K mg base CX0 1 fT fdT ["feed", "many"] spTake := ok_take FT
  have bT : Binds K fdT ["feed", "many"] [] := FT.bindsN fun _ _ _ _ _ _ us hl => match us, hl with | [_, _], _ => rfl
  refine F.ok scPick (fun vs H Q E h => ?_) (fun cdv A outer s H vs Q E hr h => ?_)
  · obtain ⟨a, l, xs, rfl, _⟩ := h
    rfl
  · obtain ⟨a, l, xs, rfl, hF, hne, hL, h0, h9, q⟩ := h
    refine ⟨_, PSs.nox <| pss_one (ps_ret (pe_ix ix_list (pv 1) (pe_call GT hr rfl gT FT.kp bT .nil pass0 (pa_cons (pv 0) (pa_cons (pe_callB call_len_seq (by rfl) T.len PySem.boot_len (pa_cons (pv 1) pa_nil)) pa_nil))) (fun _ _ => rfl))), ?_⟩
    refine ⟨_, rfl, _, rfl, _, rfl, l, xs, rfl, .inl (SqL.of hL), a, xs.length, rfl, hF, by omega, (by show (xs.length : Nat) < 2 ^ 60; omega), fun r H' hr0 hr1 hB hF' => ?_⟩
    obtain ⟨j, rfl⟩ : ∃ j : Nat, r = j := ⟨r.toNat, by omega⟩
    have hj : j < xs.length := by omega
    exact ⟨l, xs, _, xs[j], rfl, rfl, SqL.of (hB l _ hne hL), atI_nat (List.getElem?_eq_getElem hj), q _ _ (List.getElem_mem hj) hB hF'⟩
theorem scInteger : FnScope ["feed", "value"] ["feed"] (defScope sInteger) := ⟨rfl, rfl, rfl, by decide +kernel, rfl, by decide +kernel, by decide +kernel⟩
def eleven (n : Int) : List V := [.int 0, .int 1, .int 2, .int 3, .int 6, .int 12, .int 35, .int 360, .int (10 ^ (9 : Int).toNat), .int (10 ^ (20 : Int).toNat + 39), .int n]
theorem eleven_bd {n : Int} (h0 : 0 ≤ n) (h1 : n < 10 ^ (12 : Int).toNat) {v : V} (h : v ∈ eleven n) : ∃ i : Int, v = .int i ∧ i.natAbs < 2 ^ 69 := by
  have h2 : n < 1000000000000 := h1
  unfold eleven at h
  simp only [List.mem_cons, List.not_mem_nil, or_false] at h
  rcases h with h | h | h | h | h | h | h | h | h | h | h <;> subst h
  all_goals first
    | exact ⟨_, rfl, by decide⟩
    | exact ⟨_, rfl, by omega⟩
theorem signs_bd {v : V} (h : v ∈ ([.int 1, .int 1, .int (-1)] : List V)) : v = .int 1 ∨ v = .int (-1) := by
  simp only [List.mem_cons, List.not_mem_nil, or_false] at h
  rcases h with h | h | h
  · exact .inl h
  · exact .inl h
  · exact .inr h
theorem But.free {a : Addr} {H H' : Hp} {l : Addr} (x : But a H H') (h : H' l = none) (n : l ≠ a) : H l = none := by
  cases q : H l with
  | none => rfl
  | some o =>
    rw [x l o n q] at h
    cases h
theorem ok_integer {fT fP : Addr} {fdT fdP : FuncData} (F : FnP K "_law_integer" "_law_integer" sInteger f fd) (T : Txt K mg C) (gT : mg "_law_take" = some (.ref fT)) (FT : FnP K "_law_take" "_law_take" sTake fT fdT)
    (gP : mg "_law_pick" = some (.ref fP)) (FP : FnP K "_law_pick" "_law_pick" sPick fP fdP) : FnOk P w K mg base CX0 3 f fd ["feed"] spInteger := by
  have GT : FnOk P w K mg base CX0 1 fT fdT ["feed", "many"] spTake := ok_take FT
  have bT : Binds K fdT ["feed", "many"] [] := FT.bindsN fun _ _ _ _ _ _ us hl => match us, hl with | [_, _], _ => rfl
  have GP : FnOk P w K mg base CX0 2 fP fdP ["feed", "some"] spPick := ok_pick FP T gT FT
  have bP : Binds K fdP ["feed", "some"] [] := FP.bindsN fun _ _ _ _ _ _ us hl => match us, hl with | [_, _], _ => rfl
  refine F.ok scInteger (fun vs H Q E h => ?_) (fun cdv A outer s H vs Q E hr h => ?_)
  · obtain ⟨a, rfl, _⟩ := h
    rfl
  · obtain ⟨a, rfl, hF, q⟩ := h
    refine ⟨_, PSs.nox <| pss_cons (ps_set (i := 1) scInteger.nd rfl (Or.inl rfl) (pe_call GP hr rfl gP FP.kp bP .nil pass0 (pa_cons (pv 0) (pa_cons (pe_lst
        (pa_cons pe_int (pa_cons pe_int (pa_cons pe_int (pa_cons pe_int (pa_cons pe_int (pa_cons pe_int (pa_cons pe_int (pa_cons pe_int (pa_cons (pe_op op_pow pe_int pe_int)
          (pa_cons (pe_op op_add (pe_op op_pow pe_int pe_int) pe_int) (pa_cons (pe_call GT (hr.mono (by decide)) rfl gT FT.kp bT .nil pass0 (pa_cons (pv 0) (pa_cons (pe_op op_pow pe_int pe_int) pa_nil))) pa_nil)))))))))))) pa_nil))))
      (pss_one (ps_ret (pe_op op_mul (pe_call GP hr rfl gP FP.kp bP .nil pass0 (pa_cons (pv 0) (pa_cons (pe_lst (pa_cons pe_int (pa_cons pe_int (pa_cons (pe_un un_neg pe_int) pa_nil)))) pa_nil))) (pv 1)))), ?_⟩
    refine ⟨_, rfl, _, _, rfl, rfl, ⟨by decide, by decide, by decide⟩, _, _, rfl, rfl, ⟨by decide, by decide, by decide⟩, _, _, rfl, rfl, _, rfl, _, _, rfl, rfl, ⟨by decide, by decide, by decide⟩, ?_⟩
    refine ⟨a, _, rfl, hF, (by decide), (by decide), fun n H1 h0 h1 hB1 hF1 => ⟨(by show 11 ≤ sizeLine; decide), fun l hl => ?_⟩⟩
    have la : l ≠ a := by
      obtain ⟨d, t, e⟩ := hF1
      exact (ne_of_none e hl).symm
    have hF2 : Feed (upd H1 l (.lst (eleven n))) a := by
      obtain ⟨d, t, e⟩ := hF1
      exact ⟨d, t, by rw [upd_ne la.symm]; exact e⟩
    refine ⟨a, l, eleven n, rfl, hF2, la, upd_same, (by show 0 < 11; decide), (by show 11 < 1000; decide), fun v H2 hv hB2 hF3 => ?_⟩
    obtain ⟨i, rfl, hi⟩ := eleven_bd h0 h1 hv
    refine ⟨_, rfl, _, rfl, (by show 3 ≤ sizeLine; decide), fun l2 hl2 => ?_⟩
    have la2 : l2 ≠ a := by
      obtain ⟨d, t, e⟩ := hF3
      exact (ne_of_none e hl2).symm
    have hF4 : Feed (upd H2 l2 (.lst [.int 1, .int 1, .int (-1)])) a := by
      obtain ⟨d, t, e⟩ := hF3
      exact ⟨d, t, by rw [upd_ne la2.symm]; exact e⟩
    refine ⟨a, l2, [.int 1, .int 1, .int (-1)], rfl, hF4, la2, upd_same, (by show 0 < 3; decide), (by show 3 < 1000; decide), fun v H3 hv hB3 hF5 => ?_⟩
    have hB : But a H H3 := (((hB1.trans (But.of (same_upd hl))).trans hB2).trans (But.of (same_upd hl2))).trans hB3
    rcases signs_bd hv with rfl | rfl
    · refine ⟨_, rfl, _, _, rfl, rfl, (by left; decide), q _ _ ?_ hB hF5⟩
      unfold Bd
      omega
    · refine ⟨_, rfl, _, _, rfl, rfl, (by left; decide), q _ _ ?_ hB hF5⟩
      unfold Bd
      omega
theorem scPair : FnScope ["feed", "top", "bottom"] ["feed"] (defScope sPair) := ⟨rfl, rfl, rfl, by decide +kernel, rfl, by decide +kernel, by decide +kernel⟩
theorem ok_pair {fI : Addr} {fdI : FuncData} (F : FnP K "_law_pair" "_law_pair" sPair f fd) (gI : mg "_law_integer" = some (.ref fI)) (FI : FnP K "_law_integer" "_law_integer" sInteger fI fdI)
    (GI : FnOk P w K mg base CX0 3 fI fdI ["feed"] spInteger) : FnOk P w K mg base CX0 4 f fd ["feed"] spPair := by
  have bI : Binds K fdI ["feed"] [] := FI.bindsN fun _ _ _ _ _ _ us hl => match us, hl with | [_], _ => rfl
  refine F.ok scPair (fun vs H Q E h => ?_) (fun cdv A outer s H vs Q E hr h => ?_)
  · obtain ⟨a, rfl, _⟩ := h
    rfl
  · obtain ⟨a, rfl, hF, q⟩ := h
    refine ⟨_, PSs.nox <| pss_cons (ps_par (i := 1) (j := 2) (by rfl) scPair.nd rfl rfl (by decide) rfl rfl
        (pa_cons (pe_call GI hr rfl gI FI.kp bI .nil pass0 (pa_cons (pv 0) pa_nil)) (pa_cons (pe_call GI hr rfl gI FI.kp bI .nil pass0 (pa_cons (pv 0) pa_nil)) pa_nil)) (by rfl))
      (pss_one (ps_ret (pe_tup (pa_cons (pv 1) (pa_cons (pe_ifExp (pt_cmpR op_ne (pv 2) pe_int (nomark _)) (pv 2) pe_int) pa_nil))))), ?_⟩
    refine ⟨_, rfl, a, rfl, hF, fun x H1 hx hB1 hF1 => ?_⟩
    refine ⟨_, rfl, a, rfl, hF1, fun y H2 hy hB2 hF2 => ?_⟩
    refine ⟨_, _, rfl, ?_⟩
    refine ⟨_, rfl, _, rfl, rfl, _, rfl, ?_⟩
    have fin : ∀ z : Int, Bd 70 z → z ≠ 0 → ([V.int x, V.int z] : List V).length ≤ sizeLine ∧ ∀ p, H2 p = none → Q (.ref p) (upd H2 p (.tup [.int x, .int z])) := fun z hz h0 =>
      ⟨(by show 2 ≤ sizeLine; decide), fun p hp => q x z p _ hx hz h0 ((hB1.trans hB2).trans (But.of (same_upd hp))) (by
        obtain ⟨d, t, e⟩ := hF2
        exact ⟨d, t, by rw [upd_ne (ne_of_none e hp)]; exact e⟩) upd_same⟩
    refine ite2 (fun h1 => ?_) (fun h1 => ?_)
    · have h1 : y ≠ 0 := fun e => by
        rw [e] at h1
        exact absurd h1 (by decide)
      exact ⟨_, rfl, fin y hy h1⟩
    · exact fin 7 (by unfold Bd; decide) (by decide)
theorem scLowest : FnScope ["top", "bottom", "one", "other"] ["top", "bottom"] (defScope sLowest) := ⟨rfl, rfl, rfl, by decide +kernel, rfl, by decide +kernel, by decide +kernel⟩
theorem ok_lowest (F : FnP K "_law_lowest" "_law_lowest" sLowest f fd) (T : Txt K mg C) : FnOk P w K mg base CX0 1 f fd ["top", "bottom"] spLowest := by
  refine F.ok scLowest (fun vs H Q E h => ?_) (fun cdv A outer s H vs Q E hr h => ?_)
  · obtain ⟨a, b, rfl, _⟩ := h
    rfl
  · obtain ⟨a, b, rfl, hb, za, zb, q⟩ := h
    refine ⟨_, PSs.nox <| pss_cons (ps_par (i := 2) (j := 3) (by rfl) scLowest.nd rfl rfl (by decide) rfl rfl
        (pa_cons (pe_callB call_abs (by rfl) T.abs (by decide +kernel) (pa_cons (pv 0) pa_nil)) (pa_cons (pe_callB call_abs (by rfl) T.abs (by decide +kernel) (pa_cons (pv 1) pa_nil)) pa_nil)) (by rfl))
      (pss_cons (ps_while PassesOwn.never (pt_cmpR op_ne (pv 3) pe_int (nomark _)) (pss_one (ps_par (i := 2) (j := 3) (by rfl) scLowest.nd rfl rfl (by decide) rfl rfl
        (pa_cons (pv 3) (pa_cons (pe_op op_sub (pv 2) (pe_op op_mulW (pe_op op_fdivW (pv 2) (pv 3)) (pv 3))) pa_nil)) (by rfl))))
      (pss_cons (ps_if (pt_cmpR op_lt (pv 1) pe_int (nomark _)) (pss_one (ps_set (i := 2) scLowest.nd rfl (Or.inl rfl) (pe_op op_sub pe_int (pv 2)))) pss_nil)
      (pss_one (ps_ret (pe_tup (pa_cons (pe_op op_fd (pv 0) (pv 2)) (pa_cons (pe_op op_fd (pv 1) (pv 2)) pa_nil))))))), ?_⟩
    refine ⟨_, rfl, _, rfl, _, rfl, _, rfl, _, _, rfl, ?_⟩
    refine while_by (fun σ H' => H' = H ∧ ∃ u v : Nat, σ = [some (.int a), some (.int b), some (.int u), some (.int v)] ∧ Nat.gcd u v = Nat.gcd a.natAbs b.natAbs ∧ u < 2 ^ 8000 ∧ v < 2 ^ 8000)
      (fun σ _ => match σ with
        | [_, _, _, some (.int v)] => v.toNat
        | _ => 0) ?_ ?_ ?_
    · refine ⟨rfl, a.natAbs, b.natAbs, ?_, rfl, za, zb⟩
      have e1 : (if a < 0 then -a else a) = (a.natAbs : Int) := by split <;> omega
      have e2 : (if b < 0 then -b else b) = (b.natAbs : Int) := by split <;> omega
      show [some (V.int a), some (V.int b), some (V.int (if a < 0 then -a else a)), some (V.int (if b < 0 then -b else b))] = _
      rw [e1, e2]
    · rintro σ H' ⟨rfl, u, v, rfl, hg, hu, hv⟩
      refine ⟨_, rfl, rfl, _, rfl, ?_⟩
      refine ite2 (fun h1 => ?_) (fun h1 => ?_)
      · have h1 : (v : Int) ≠ 0 := fun e => by
          rw [e] at h1
          exact absurd h1 (by decide)
        have hv0 : 0 < v := by omega
        have hvI : (0 : Int) < v := by omega
        have d1 : ((u : Int) / (v : Int)) = ((u / v : Nat) : Int) := rfl
        have hq : u / v < 2 ^ 8000 := Nat.lt_of_le_of_lt (Nat.div_le_self _ _) hu
        refine ⟨_, rfl, _, rfl, _, rfl, _, rfl, _, _, rfl, rfl, wide_div hvI (show ((v : Nat) : Int).natAbs < 2 ^ 8000 from hv) (by decide) (by decide), _, rfl, _, _, rfl, rfl, ?_, _, _, rfl, rfl, _, _, rfl, ?_⟩
        · exact wide_mul (a := 8000) (b := 8000) (show ((u / v : Nat) : Int).natAbs < 2 ^ 8000 from hq) (show ((v : Nat) : Int).natAbs < 2 ^ 8000 from hv) (by decide) (by decide) (by decide)
        · have e1 : (u : Int) - (u : Int) / (v : Int) * (v : Int) = ((u % v : Nat) : Int) := by
            have := Nat.mod_add_div u v
            have e2 : ((u % v : Nat) : Int) = (u : Int) % (v : Int) := rfl
            rw [e2, Int.emod_def, Int.mul_comm]
          have hm : u % v < v := Nat.mod_lt _ hv0
          refine ⟨⟨rfl, v, u % v, ?_, ?_, hv, Nat.lt_trans hm hv⟩, ?_⟩
          · show [some (V.int a), some (V.int b), some (V.int v), some (V.int ((u : Int) - (u : Int) / (v : Int) * (v : Int)))] = _
            rw [e1]
          · rw [← hg, Nat.gcd_comm u v, Nat.gcd_rec v u, Nat.gcd_comm]
          · show (((u : Int) - (u : Int) / (v : Int) * (v : Int))).toNat < ((v : Nat) : Int).toNat
            rw [e1]
            omega
      · have h1 : v = 0 := by
          have h2 : ¬ (V.int v ≠ V.int 0) := fun n => h1 (by rw [decide_eq_false n] <;> rfl)
          have h3 : (V.int v = V.int 0) := Classical.not_not.mp h2
          have h4 := V.int.inj h3
          omega
        subst h1
        rw [Nat.gcd_zero_right] at hg
        subst hg
        have hn := sg_ne (a := a) hb
        have hz2 := (zb.sg (a := a) hb).log (by decide) (show 8000 ≤ 9000 by decide)
        have fin : ∀ o : Int, o = sg a b → ∀ σ : L2.St, σ = [some (.int a), some (.int b), some (.int o), some (.int 0)] →
            (tRet (tTup (tCons (tOp (rI FdC fun i j => .int (i.fdiv j)) (tVar 0) (tVar 2)) (tCons (tOp (rI FdC fun i j => .int (i.fdiv j)) (tVar 1) (tVar 2)) tNil)))) { nx := fun _ H' => Q .non H', rt := Q } σ H' := by
          rintro o rfl σ rfl
          refine ⟨_, rfl, _, rfl, _, _, rfl, rfl, ⟨hn, hz2⟩, _, rfl, _, rfl, _, _, rfl, rfl, ⟨hn, hz2⟩, (by show 2 ≤ sizeLine; decide), fun p hp => ?_⟩
          exact q p _ (same_upd hp) upd_same
        refine ⟨_, rfl, _, _, rfl, rfl, _, rfl, ?_⟩
        refine ite2 (fun hneg => ?_) (fun hpos => ?_)
        · have hneg := of_decide_eq_true hneg
          refine ⟨_, rfl, _, _, rfl, rfl, ?_⟩
          refine fin _ ?_ _ rfl
          unfold sg
          rw [if_pos hneg]
          omega
        · have hpos := of_decide_eq_false (Bool.eq_false_iff.mpr hpos)
          refine fin _ ?_ _ rfl
          unfold sg
          rw [if_neg hpos]
    · intro σ H' Q Q' hQ hc
      obtain ⟨v, hv, e1, k2, e2, q⟩ := hc
      exact ⟨v, hv, e1, k2, e2, hQ _ _ q⟩
end
end RT
set_option maxRecDepth 100000
set_option maxHeartbeats 4000000
namespace RT
open PySem PySem.Spec PyProof.Rows L2 GL MX
def spIs (C : Addr) : Sp := fun vs H Q _ => ∃ (x : Addr) (a b : Int), vs = [.ref x, .int a, .int b] ∧ b ≠ 0 ∧ Bd 1900 a ∧ Bd 1900 b ∧ Rat C H x (nt a b) (nb a b) ∧ ∀ H', Same H H' → Q (.bl true) H'
/-- the tuple's text -/
theorem shown_two {t b : Int} (ht : Bd 1900 t) (hb : Bd 1900 b) : (PyData.tuple [.int t, .int b]).showable = true ∧ (PyData.tuple [.int t, .int b]).hasDict = false ∧ (PyData.tuple [.int t, .int b]).depth ≤ 60 ∧ (PyData.tuple [.int t, .int b]).shown.length ≤ sizeLine := by
  have l1 := ht.log (by decide) (show 1900 ≤ 1920 by decide)
  have l2 := hb.log (by decide) (show 1900 ≤ 1920 by decide)
  have z1 := tx_len' l1
  have z2 := tx_len' l2
  have zs := sizeLine_eq
  refine ⟨?_, ?_, ?_, ?_⟩
  · simp [PyData.showable, PyData.showableAll, l1, l2]
  · simp [PyData.hasDict, PyData.hasDictAll]
  · simp [PyData.depth, PyData.depthAll]
  · have e : (PyData.tuple [.int t, .int b]).shown = tupleText [tx t, tx b] := by
      simp [PyData.shown, PyData.shownAll, tx]
    rw [e]
    have h := PySem.fmt_text [tx t, tx b]
    rw [piled_cons, piled_cons, piled_nil] at h
    omega
theorem dp_two {K : PySem.W.Frag} {H : Hp} {p : Addr} {t b : Int} (h : H p = some (.tup [.int t, .int b])) : Dp K H (.ref p) (.tuple [.int t, .int b]) := .tup (SqT.of h) (.cons (.int _) (.cons (.int _) .nil))
section
variable {P : Program} {w : World} {K : PySem.W.Frag} {mg : Str → Option Value} {base : Heap} {C f : Addr} {fd : FuncData}
theorem scText : FnScope ["top", "bottom"] ["top", "bottom"] (defScope sText) := ⟨rfl, rfl, rfl, by decide +kernel, rfl, by decide +kernel, by decide +kernel⟩
theorem ok_text {fL : Addr} {fdL : FuncData} (F : FnP K "_law_text" "_law_text" sText f fd) (T : Txt K mg C) (gL : mg "_law_lowest" = some (.ref fL)) (FL : FnP K "_law_lowest" "_law_lowest" sLowest fL fdL) : FnOk P w K mg base CX0 2 f fd ["top", "bottom"] spText := by
  have GL' : FnOk P w K mg base CX0 1 fL fdL ["top", "bottom"] spLowest := ok_lowest FL T
  have bL : Binds K fdL ["top", "bottom"] [] := FL.bindsN fun _ _ _ _ _ _ us hl => match us, hl with | [_, _], _ => rfl
  refine F.ok scText (fun vs H Q E h => ?_) (fun cdv A outer s H vs Q E hr h => ?_)
  · obtain ⟨a, b, rfl, _⟩ := h
    rfl
  · obtain ⟨a, b, rfl, hb, za, zb, q⟩ := h
    refine ⟨_, PSs.nox <| pss_cons (ps_asg (pe_call GL' hr rfl gL FL.kp bL .nil pass0 (pa_cons (pv 0) (pa_cons (pv 1) pa_nil)))
        (pg_tup (by rfl) (pgs_cons (pg_name (i := 0) scText.nd rfl (Or.inl rfl)) (pgs_cons (pg_name (i := 1) scText.nd rfl (Or.inl rfl)) pgs_nil))))
      (pss_one (ps_ret (pe_ifExp (pt_cmpR op_eq (pv 1) pe_int (nomark _)) (pe_callTy call_str_int (by rfl) T.str (by decide +kernel) (pa_cons (pv 0) pa_nil))
        (pe_op op_add_str (pe_op op_add_str (pe_callTy call_str_int (by rfl) T.str (by decide +kernel) (pa_cons (pv 0) pa_nil)) pe_str) (pe_callTy call_str_int (by rfl) T.str (by decide +kernel) (pa_cons (pv 1) pa_nil)))))), ?_⟩
    refine ⟨_, rfl, _, rfl, a, b, rfl, hb, za.le (by decide), zb.le (by decide), fun p H1 hs1 hp => ?_⟩
    refine ⟨_, _, rfl, SqT.of hp, rfl, _, _, rfl, _, _, rfl, rfl, ?_⟩
    have l1 := (za.nt hb).log (by decide) (show 1900 ≤ 1920 by decide)
    have l2 := (zb.nb (a := a) hb).log (by decide) (show 1900 ≤ 1920 by decide)
    have z1 := tx_len' l1
    have z2 := tx_len' l2
    have zs := sizeLine_eq
    have e := q H1 hs1
    unfold rt at e
    refine ⟨_, rfl, rfl, _, rfl, ?_⟩
    refine ite2 (fun h1 => ?_) (fun h1 => ?_)
    · have h1 := V.int.inj (of_decide_eq_true h1)
      rw [if_pos h1] at e
      exact ⟨_, rfl, _, rfl, l1, e⟩
    · have h1 : ¬ nb a b = 1 := fun q => h1 (decide_eq_true (by rw [q]))
      rw [if_neg h1] at e
      have k1 : (tx (nt a b) ++ Str.ofString "/").length = (tx (nt a b)).length + 1 := PySem.Str.length_append _ _
      refine ⟨_, rfl, _, rfl, l1, _, _, rfl, rfl, ?_, _, rfl, _, rfl, l2, _, _, rfl, rfl, ?_, e⟩
      · show (tx (nt a b)).length + 1 ≤ sizeLine
        omega
      · show (tx (nt a b) ++ Str.ofString "/").length + (tx (nb a b)).length ≤ sizeLine
        omega
theorem scIs : FnScope ["ratio", "top", "bottom"] ["ratio", "top", "bottom"] (defScope sIs) := ⟨rfl, rfl, rfl, by decide +kernel, rfl, by decide +kernel, by decide +kernel⟩
theorem ok_is {fL fX fS : Addr} {fdL fdX fdS : FuncData} (F : FnP K "_law_is" "_law_is" sIs f fd) (T : Txt K mg C) (gL : mg "_law_lowest" = some (.ref fL)) (FL : FnP K "_law_lowest" "_law_lowest" sLowest fL fdL)
    (gX : mg "_law_text" = some (.ref fX)) (FX : FnP K "_law_text" "_law_text" sText fX fdX) (mS : Meth K C "__str__" fS) (FS : FnP K "__str__" "Ratio.__str__" sStr fS fdS) (GS : FnOk P w K mg base CX0 2 fS fdS ["self"] (spStr C)) :
    FnG P w K mg base 5 f (spIs C) := by
  have GL' : FnOk P w K mg base CX0 1 fL fdL ["top", "bottom"] spLowest := ok_lowest FL T
  have bL : Binds K fdL ["top", "bottom"] [] := FL.bindsN fun _ _ _ _ _ _ us hl => match us, hl with | [_, _], _ => rfl
  have GX : FnOk P w K mg base CX0 2 fX fdX ["top", "bottom"] spText := ok_text FX T gL FL
  have bX : Binds K fdX ["top", "bottom"] [] := FX.bindsN fun _ _ _ _ _ _ us hl => match us, hl with | [_, _], _ => rfl
  have bS : Binds K fdS ["self"] [] := FS.bindsN fun _ _ _ _ _ _ us hl => match us, hl with | [_], _ => rfl
  have bF : Binds K fd ["ratio", "top", "bottom"] [] := F.bindsN fun _ _ _ _ _ _ us hl => match us, hl with | [_, _, _], _ => rfl
  refine fng_of F scIs (fun vs H Q E h => ?_) bF (fun cdv A outer s H vs Q hr h => ?_)
  · obtain ⟨x, a, b, rfl, _⟩ := h
    rfl
  · obtain ⟨x, a, b, rfl, hb, za, zb, hx, q⟩ := h
    have hr4 : Room 4 _ := hr.rm
    refine ⟨_, PSs.nox <| pss_cons (ps_if (PW.pt (pw_or (pt_not (pt_val (pe_callB (C8.call_isC T.ins) (by rfl) T.isi (by decide +kernel) (pa_cons (pv 0) (pa_cons (pe_glob (v := V.ref C) rfl T.mgC rfl) pa_nil)))))
        (pw_or1 (pt_cmpR op_ne (pe_callTy (call_strOwn mS (GS.raw bS .nil) hr4 pass0) (by rfl) T.str (by decide +kernel) (pa_cons (pv 0) pa_nil)) (pe_call GX (hr4.mono (by decide)) rfl gX FX.kp bX .nil pass0 (pa_cons (pv 1) (pa_cons (pv 2) pa_nil))) (nomark _)))))
        (pss_one (ps_ret pe_bl)) pss_nil)
      (pss_one (ps_ret (pe_cmpR op_eq (pe_callB (call_reprD hr) (by rfl) T.repr (by decide +kernel) (pa_cons (pe_tup (pa_cons (pe_fld (pv 0) rfl) (pa_cons (pe_fld (pv 0) rfl) pa_nil))) pa_nil))
        (pe_callB (call_reprD hr) (by rfl) T.repr (by decide +kernel) (pa_cons (pe_call GL' (hr4.mono (by decide)) rfl gL FL.kp bL .nil pass0 (pa_cons (pv 1) (pa_cons (pv 2) pa_nil))) pa_nil)) (nomark _)))), ?_⟩
    obtain ⟨dx, hX⟩ := id hx
    have t1 := za.nt hb
    have t2 := zb.nb (a := a) hb
    refine ⟨_, rfl, x, dx, _, rfl, hX, true, rfl, ?_⟩
    refine iteF ?_
    refine ⟨_, rfl, x, dx, _, rfl, hX, x, _, _, rfl, hx, t1, t2, fun H1 hs1 => ⟨_, rfl, ?_⟩⟩
    refine ⟨_, rfl, _, rfl, a, b, rfl, hb, za, zb, fun H2 hs2 => ⟨rfl, _, rfl, ?_⟩⟩
    rw [decide_eq_true (rfl : V.str (rt (nt a b) (nb a b)) = V.str (rt (nt a b) (nb a b)))]
    refine iteF ?_
    obtain ⟨dy, hY⟩ := hx.same (hs1.trans hs2)
    obtain ⟨c1, c2, c3, c4⟩ := shown_two t1 t2
    refine ⟨_, rfl, x, C, dy, _, _, rfl, hY, T.cl, T.nT, Rf_top _ _, _, rfl, x, C, dy, _, _, rfl, hY, T.cl, T.nB, Rf_bot _ _, (by show 2 ≤ sizeLine; decide), fun p hp => ?_⟩
    refine ⟨p, _, rfl, dp_two upd_same, c1, c2, c3, c4, ?_⟩
    refine ⟨_, rfl, _, rfl, a, b, rfl, hb, za.le (by decide), zb.le (by decide), fun p2 H3 hs3 hp2 => ?_⟩
    refine ⟨p2, _, rfl, dp_two hp2, c1, c2, c3, c4, rfl, ?_⟩
    rw [decide_eq_true rfl]
    exact q H3 (((hs1.trans hs2).trans (same_upd hp)).trans hs3)
end
end RT
namespace MX
abbrev QQ := _root_.Rat
theorem den_pos' (q : QQ) : (0 : Int) < (q.den : Int) := by
  have := q.den_pos
  omega
theorem den_ne (q : QQ) : (q.den : Int) ≠ 0 := Int.ne_of_gt (den_pos' q)
theorem nt_div {a b : Int} (h : b ≠ 0) : nt a b = (Rat.divInt a b).num ∧ nb a b = ((Rat.divInt a b).den : Int) := by
  have hd := den_pos' (Rat.divInt a b)
  have e := Rat.divInt_eq_divInt_iff (n₁ := (Rat.divInt a b).num) (n₂ := a) (Int.ne_of_gt hd) h
  have e2 := e.mp (Rat.num_divInt_den _)
  refine uniq (nb_pos h) hd (cop h) ?_ ?_
  · exact (Rat.divInt a b).reduced
  · have e3 := low_cross (a := a) h
    have : (nt a b * (Rat.divInt a b).den) * b = ((Rat.divInt a b).num * nb a b) * b := by grind
    exact Int.eq_of_mul_eq_mul_right h this
/-- both below 2 ^ n -/
def Bq (n : Nat) (q : QQ) : Prop := Bd n q.num ∧ Bd n (q.den : Int)
theorem Bq.le {m n : Nat} {q : QQ} (h : Bq m q) (l : m ≤ n) : Bq n q := ⟨h.1.le l, h.2.le l⟩
theorem Bq.div {n : Nat} {a b : Int} (h : b ≠ 0) (ha : Bd n a) (hb : Bd n b) : Bq n (Rat.divInt a b) := by
  obtain ⟨e1, e2⟩ := nt_div (a := a) h
  exact ⟨e1 ▸ ha.nt h, e2 ▸ hb.nb h⟩
theorem q_eq (q : QQ) : q = Rat.divInt q.num q.den := (Rat.num_divInt_den q).symm
theorem low_qadd (q r : QQ) : nt (q.num * r.den + r.num * q.den) (q.den * r.den) = (q + r).num ∧ nb (q.num * r.den + r.num * q.den) (q.den * r.den) = ((q + r).den : Int) := by
  have e : q + r = Rat.divInt (q.num * r.den + r.num * q.den) (q.den * r.den) := by
    rw [← Rat.divInt_add_divInt _ _ (den_ne q) (den_ne r), ← q_eq, ← q_eq]
  rw [e]
  exact nt_div (Int.mul_ne_zero (den_ne q) (den_ne r))
theorem low_qsub (q r : QQ) : nt (q.num * r.den - r.num * q.den) (q.den * r.den) = (q - r).num ∧ nb (q.num * r.den - r.num * q.den) (q.den * r.den) = ((q - r).den : Int) := by
  have e : q - r = Rat.divInt (q.num * r.den - r.num * q.den) (q.den * r.den) := by
    rw [← Rat.divInt_sub_divInt _ _ (den_ne q) (den_ne r), ← q_eq, ← q_eq]
  rw [e]
  exact nt_div (Int.mul_ne_zero (den_ne q) (den_ne r))
theorem low_qmul (q r : QQ) : nt (q.num * r.num) (q.den * r.den) = (q * r).num ∧ nb (q.num * r.num) (q.den * r.den) = ((q * r).den : Int) := by
  have e : q * r = Rat.divInt (q.num * r.num) (q.den * r.den) := by
    rw [← Rat.divInt_mul_divInt, ← q_eq, ← q_eq]
  rw [e]
  exact nt_div (Int.mul_ne_zero (den_ne q) (den_ne r))
theorem low_qneg (q : QQ) : nt (-q.num) q.den = (-q).num ∧ nb (-q.num) q.den = ((-q).den : Int) := by
  have e : -q = Rat.divInt (-q.num) q.den := by
    rw [← Rat.neg_divInt, ← q_eq]
  rw [e]
  exact nt_div (den_ne q)
theorem num_ne {q : QQ} (h : q ≠ 0) : q.num ≠ 0 := fun e => h (by
  have := q_eq q
  rw [e, Rat.zero_divInt] at this
  exact this)
theorem low_qinv {q : QQ} (h : q ≠ 0) : nt q.den q.num = (q⁻¹).num ∧ nb q.den q.num = ((q⁻¹).den : Int) := by
  have e : q⁻¹ = Rat.divInt q.den q.num := Rat.inv_def q
  rw [e]
  exact nt_div (num_ne h)
theorem Bq.add {m n : Nat} {q r : QQ} (h : Bq m q) (g : Bq n r) : Bq (m + n + 1) (q + r) := by
  obtain ⟨e1, e2⟩ := low_qadd q r
  have hn := Int.mul_ne_zero (den_ne q) (den_ne r)
  have b2 : Bd (m + n + 1) ((q.den : Int) * r.den) := (h.2.mul g.2).le (by omega)
  have b1 : Bd (m + n + 1) (q.num * r.den + r.num * q.den) := (h.1.mul g.2).add ((g.1.mul h.2).le (by omega))
  exact ⟨e1 ▸ b1.nt hn, e2 ▸ b2.nb hn⟩
theorem Bq.sub {m n : Nat} {q r : QQ} (h : Bq m q) (g : Bq n r) : Bq (m + n + 1) (q - r) := by
  obtain ⟨e1, e2⟩ := low_qsub q r
  have hn := Int.mul_ne_zero (den_ne q) (den_ne r)
  have b2 : Bd (m + n + 1) ((q.den : Int) * r.den) := (h.2.mul g.2).le (by omega)
  have b1 : Bd (m + n + 1) (q.num * r.den - r.num * q.den) := (h.1.mul g.2).sub ((g.1.mul h.2).le (by omega))
  exact ⟨e1 ▸ b1.nt hn, e2 ▸ b2.nb hn⟩
theorem Bq.mul {m n : Nat} {q r : QQ} (h : Bq m q) (g : Bq n r) : Bq (m + n) (q * r) := by
  obtain ⟨e1, e2⟩ := low_qmul q r
  have hn := Int.mul_ne_zero (den_ne q) (den_ne r)
  have b2 : Bd (m + n) ((q.den : Int) * r.den) := h.2.mul g.2
  have b1 : Bd (m + n) (q.num * r.num) := h.1.mul g.1
  exact ⟨e1 ▸ b1.nt hn, e2 ▸ b2.nb hn⟩
theorem Bq.neg {m : Nat} {q : QQ} (h : Bq m q) : Bq m (-q) := by
  obtain ⟨e1, e2⟩ := low_qneg q
  exact ⟨e1 ▸ h.1.neg.nt (den_ne q), e2 ▸ h.2.nb (den_ne q)⟩
theorem Bq.inv {m : Nat} {q : QQ} (h0 : q ≠ 0) (h : Bq m q) : Bq m q⁻¹ := by
  obtain ⟨e1, e2⟩ := low_qinv h0
  exact ⟨e1 ▸ h.2.nt (num_ne h0), e2 ▸ h.1.nb (num_ne h0)⟩
/-- expressions of ratios -/
inductive Ex | v (i : Nat) | add (a b : Ex) | sub (a b : Ex) | mul (a b : Ex) | neg (a : Ex) | inv (a : Ex)
def Ex.val (ρ : Nat → QQ) : Ex → QQ
  | v i => ρ i
  | add a b => a.val ρ + b.val ρ
  | sub a b => a.val ρ - b.val ρ
  | mul a b => a.val ρ * b.val ρ
  | neg a => - a.val ρ
  | inv a => (a.val ρ)⁻¹
def Ex.bits (n : Nat → Nat) : Ex → Nat
  | v i => n i
  | add a b => a.bits n + b.bits n + 1
  | sub a b => a.bits n + b.bits n + 1
  | mul a b => a.bits n + b.bits n
  | neg a => a.bits n
  | inv a => a.bits n
def Ex.ok (n : Nat → Nat) : Ex → Bool
  | v _ => true
  | add a b => a.ok n && b.ok n && Nat.ble (a.bits n) 900 && Nat.ble (b.bits n) 900
  | sub a b => a.ok n && b.ok n && Nat.ble (a.bits n) 900 && Nat.ble (b.bits n) 900
  | mul a b => a.ok n && b.ok n && Nat.ble (a.bits n) 900 && Nat.ble (b.bits n) 900
  | neg a => a.ok n && Nat.ble (a.bits n) 900
  | inv a => a.ok n && Nat.ble (a.bits n) 900
def Ex.nz (ρ : Nat → QQ) : Ex → Prop
  | v _ => True
  | add a b => a.nz ρ ∧ b.nz ρ
  | sub a b => a.nz ρ ∧ b.nz ρ
  | mul a b => a.nz ρ ∧ b.nz ρ
  | neg a => a.nz ρ
  | inv a => a.nz ρ ∧ a.val ρ ≠ 0
def Ex.vars : Ex → List Nat
  | v i => [i]
  | add a b => a.vars ++ b.vars
  | sub a b => a.vars ++ b.vars
  | mul a b => a.vars ++ b.vars
  | neg a => a.vars
  | inv a => a.vars
theorem Ex.bnd {ρ : Nat → QQ} {n : Nat → Nat} : ∀ (e : Ex), (∀ i ∈ e.vars, Bq (n i) (ρ i)) → e.nz ρ → Bq (e.bits n) (e.val ρ)
  | v i, h, _ => h i (List.mem_singleton.mpr rfl)
  | add a b, h, z => (a.bnd (fun i m => h i (List.mem_append_left _ m)) z.1).add (b.bnd (fun i m => h i (List.mem_append_right _ m)) z.2)
  | sub a b, h, z => (a.bnd (fun i m => h i (List.mem_append_left _ m)) z.1).sub (b.bnd (fun i m => h i (List.mem_append_right _ m)) z.2)
  | mul a b, h, z => (a.bnd (fun i m => h i (List.mem_append_left _ m)) z.1).mul (b.bnd (fun i m => h i (List.mem_append_right _ m)) z.2)
  | neg a, h, z => (a.bnd h z).neg
  | inv a, h, z => (a.bnd h z.1).inv z.2
/-! ### a chain's sizes -/
theorem fib_big {x : Int} {t : Nat} (h0 : 0 ≤ x) (h : x * 1000 ^ t ≤ 1619 ^ t) (ht : t ≤ 1201) : Bd 900 x := by
  unfold Bd
  refine Nat.lt_of_not_le fun hx => ?_
  have h1 : x.natAbs * 1000 ^ t ≤ 1619 ^ t := by
    have e : (x.natAbs : Int) = x := Int.natAbs_of_nonneg h0
    have : ((x.natAbs * 1000 ^ t : Nat) : Int) ≤ ((1619 ^ t : Nat) : Int) := by
      simp only [Int.natCast_mul, Int.natCast_pow, e]
      exact h
    exact Int.ofNat_le.mp this
  have h2 : (1000 : Nat) ^ (1201 - t) ≤ 1619 ^ (1201 - t) := Nat.pow_le_pow_left (by decide) _
  have h3 : x.natAbs * 1000 ^ t * 1000 ^ (1201 - t) ≤ 1619 ^ t * 1619 ^ (1201 - t) := Nat.mul_le_mul h1 h2
  rw [Nat.mul_assoc, ← Nat.pow_add, ← Nat.pow_add, Nat.add_sub_cancel' ht] at h3
  have h4 : 2 ^ 900 * 1000 ^ 1201 ≤ 1619 ^ 1201 := Nat.le_trans (Nat.mul_le_mul_right _ hx) h3
  exact absurd h4 (by decide +kernel)
theorem fib_step {b c : Int} {t : Nat} (h1 : b * 1000 ^ t ≤ 1619 ^ t) (h2 : c * 1000 ^ (t + 1) ≤ 1619 ^ (t + 1)) : (b + c) * 1000 ^ (t + 1 + 1) ≤ 1619 ^ (t + 1 + 1) := by
  have e1 : (b + c) * 1000 ^ (t + 1 + 1) = (b * 1000 ^ t) * 1000000 + (c * 1000 ^ (t + 1)) * 1000 := by
    simp only [Int.pow_succ]
    grind
  have e2 : (1619 : Int) ^ (t + 1 + 1) = 1619 ^ t * 2621161 := by
    simp only [Int.pow_succ]
    grind
  have e3 : (1619 : Int) ^ (t + 1) = 1619 ^ t * 1619 := by
    simp only [Int.pow_succ]
  have p : (0 : Int) ≤ 1619 ^ t := Int.le_of_lt (Int.pow_pos (by decide))
  rw [e1, e2]
  rw [e3] at h2
  omega
end MX
namespace MX
theorem q_sq (q : QQ) : ¬ q * q < 0 := by
  by_cases h : 0 ≤ q
  · have := Rat.mul_nonneg h h
    grind
  · have h2 : 0 ≤ -q := by grind
    have := Rat.mul_nonneg h2 h2
    have e : -q * -q = q * q := by grind
    rw [e] at this
    grind
theorem q_inv_lt {q r : QQ} (hq : 0 < q) (hr : 0 < r) : (r⁻¹ < q⁻¹) ↔ q < r := by
  have h1 := Rat.inv_pos.mpr hq
  have h2 := Rat.inv_pos.mpr hr
  have e1 : q * q⁻¹ = 1 := Rat.mul_inv_cancel q (by grind)
  have e2 : r * r⁻¹ = 1 := Rat.mul_inv_cancel r (by grind)
  constructor
  · intro h
    have a := Rat.mul_pos (Rat.mul_pos hq hr) (by grind : 0 < q⁻¹ - r⁻¹)
    have e : q * r * (q⁻¹ - r⁻¹) = (q * q⁻¹) * r - (r * r⁻¹) * q := by grind
    rw [e, e1, e2] at a
    grind
  · intro h
    have a := Rat.mul_pos (Rat.mul_pos h1 h2) (by grind : 0 < r - q)
    have e : q⁻¹ * r⁻¹ * (r - q) = (r * r⁻¹) * q⁻¹ - (q * q⁻¹) * r⁻¹ := by grind
    rw [e, e1, e2] at a
    grind
theorem q_three (q r : QQ) : ([decide (q < r), decide (r < q), decide (q = r)].count true : Nat) = 1 := by
  by_cases h : q < r
  · have h1 : ¬ r < q := by grind
    have h2 : ¬ q = r := by grind
    simp [h, h1, h2]
  · by_cases g : r < q
    · have h2 : ¬ q = r := by grind
      simp [h, g, h2]
    · have h2 : q = r := by grind
      subst h2
      simp [h]
theorem q_shift (q r t : QQ) : decide (q + t < r + t) = decide (q < r) := decide_eq_decide.mpr (by grind)
theorem q_turn (q r : QQ) : decide (-r < -q) = decide (q < r) := decide_eq_decide.mpr (by grind)
theorem q_trans {q r t : QQ} (h : q < r) (g : r < t) : q < t := by grind
theorem lt_dec (q r : QQ) : decide (q.num * r.den < r.num * q.den) = decide (q < r) := decide_eq_decide.mpr (Rat.lt_iff q r).symm
end MX
namespace MX
theorem ch_sub {b c d : Int} (hc : 0 < c) (e : d = b + c) : Rat.divInt d c - 1 = Rat.divInt b c := by
  have hc' : (c : QQ) ≠ 0 := by
    have h1 : (0 : QQ) < c := Rat.intCast_pos.mpr hc
    grind
  rw [Rat.divInt_eq_div, Rat.divInt_eq_div, e, Rat.intCast_add]
  grind
theorem ch_pos {c d : Int} (hc : 0 < c) (hd : 0 < d) : 0 < Rat.divInt d c := by
  rw [Rat.divInt_eq_div]
  have h1 : (0 : QQ) < c := Rat.intCast_pos.mpr hc
  have h2 : (0 : QQ) < d := Rat.intCast_pos.mpr hd
  rw [Rat.lt_div_iff h1]
  grind
theorem ch_mul {c d : Int} (hc : 0 < c) (hd : 0 < d) : Rat.divInt d c * Rat.divInt c d = 1 := by
  have h := ch_pos hc hd
  have h2 : Rat.divInt d c ≠ 0 := by grind
  have e : Rat.divInt c d = (Rat.divInt d c)⁻¹ := (Rat.inv_divInt d c).symm
  rw [e]
  exact Rat.mul_inv_cancel _ h2
theorem ch_less {b c d : Int} (hb : 0 < b) (hc : 0 < c) (e : d = b + c) : 1 < Rat.divInt d c := by
  rw [Rat.divInt_eq_div]
  have h1 : (0 : QQ) < c := Rat.intCast_pos.mpr hc
  have h2 : (0 : QQ) < b := Rat.intCast_pos.mpr hb
  rw [Rat.lt_div_iff h1, e, Rat.intCast_add]
  grind
/-- s / (s + 1) + 1 / ((s + 1)(s + 2)) = (s + 1) / (s + 2) -/
theorem ch_sum {s : Int} (h : 0 ≤ s) : Rat.divInt s (s + 1) + Rat.divInt 1 ((1 + s) * ((1 + s) + 1)) = Rat.divInt (s + 1) ((s + 1) + 1) := by
  have h1 : (0 : QQ) ≤ s := Rat.intCast_nonneg.mpr h
  rw [Rat.divInt_eq_div, Rat.divInt_eq_div, Rat.divInt_eq_div]
  simp only [Rat.intCast_add, Rat.intCast_mul, Rat.intCast_one]
  have h2 : (s : QQ) + 1 ≠ 0 := by grind
  have h3 : (s : QQ) + 1 + 1 ≠ 0 := by grind
  have h4 : (1 : QQ) + s ≠ 0 := by grind
  grind
end MX
namespace MX
theorem fib_big2 {x : Int} {t : Nat} (h0 : 0 ≤ x) (h : x * 1000 ^ t ≤ 1619 ^ t) (ht : t ≤ 1501) : Bd 1100 x := by
  unfold Bd
  refine Nat.lt_of_not_le fun hx => ?_
  have h1 : x.natAbs * 1000 ^ t ≤ 1619 ^ t := by
    have e : (x.natAbs : Int) = x := Int.natAbs_of_nonneg h0
    have : ((x.natAbs * 1000 ^ t : Nat) : Int) ≤ ((1619 ^ t : Nat) : Int) := by
      simp only [Int.natCast_mul, Int.natCast_pow, e]
      exact h
    exact Int.ofNat_le.mp this
  have h2 : (1000 : Nat) ^ (1501 - t) ≤ 1619 ^ (1501 - t) := Nat.pow_le_pow_left (by decide) _
  have h3 : x.natAbs * 1000 ^ t * 1000 ^ (1501 - t) ≤ 1619 ^ t * 1619 ^ (1501 - t) := Nat.mul_le_mul h1 h2
  rw [Nat.mul_assoc, ← Nat.pow_add, ← Nat.pow_add, Nat.add_sub_cancel' ht] at h3
  have h4 : 2 ^ 1100 * 1000 ^ 1501 ≤ 1619 ^ 1501 := Nat.le_trans (Nat.mul_le_mul_right _ hx) h3
  exact absurd h4 (by decide +kernel)
theorem cop_step {c d : Int} (hc : 1 ≤ c) (hd : 1 ≤ d) (h : Nat.gcd c.natAbs d.natAbs = 1) : Nat.gcd d.natAbs (c + d).natAbs = 1 := by
  have e : (c + d).natAbs = c.natAbs + d.natAbs := by omega
  rw [e, Nat.gcd_add_self_right, Nat.gcd_comm]
  exact h
theorem eqv_two (i j : Int) : PySem.PyData.eqv (.tuple [.int i, .int j]) (.tuple [.int i, .int j]) = true := by
  simp [PySem.PyData.eqv, PySem.PyData.eqvAll]
end MX
set_option maxRecDepth 100000
set_option maxHeartbeats 2000000
/-! «except X as e: v = e»: the exception is kept in v, and what it is is known behind the try. -/
namespace GL
open PySem PySem.Spec PyProof.Rows L2
/-- an exception of the class cls, its own dict at d, caught and kept -/
def ExV (cls : Value) (d : Option Addr) (a : Addr) : HO := .ext fun h => ∃ (ob : Obj) (flds : Array Value), h.get? a = some ob ∧ Zc cls d ob ∧ ob.data = .fields flds
theorem exV_ok {P : Program} {w : World} {H : Hp} {h : Heap} {a : Addr} {cls : Value} {d : Option Addr} {ob : Obj} {flds : Array Value} (e : h.get? a = some ob) (z : Zc cls d ob) (hd : ob.data = .fields flds) : ObjOk P w H h a (ExV cls d a) :=
  ⟨⟨ob, flds, e, z, hd⟩, ⟨ob, e⟩, fun _ _ ⟨o, v, q, r, t⟩ k => ⟨o, v, k o q, r, t⟩⟩
section
variable {X : Cx} {pins : List (Addr × Obj)} {σ : L2.St} {H : Hp} {s : Shared}
/-- an object that is not tracked and was not there at the entry may be left out -/
theorem inv_less {a : Addr} {ob : Obj} {flds : Array Value} (I : Inv X pins σ H s) (na : H a = none) (n0 : X.s_0.heap.get? a = none) (ho : s.heap.get? a = some ob) (hd : ob.data = .fields flds) (nL : a ≠ X.env.locals)
    (np : ∀ p ∈ X.pn ++ pins, p.1 ≠ a) : ∃ G : Heap, (∀ b o, G.get? b = some o → s.heap.get? b = some o) ∧ G.get? a = none ∧ Inv X pins σ H { s with heap := G } := by
  obtain ⟨G, g1, g2⟩ := restrict s.heap fun b => decide (b ≠ a)
  have ga : G.get? a = none := g2 a (decide_eq_false fun z => z rfl)
  have up : ∀ b o, b ≠ a → s.heap.get? b = some o → G.get? b = some o := fun b o hb e => (g1 b (decide_eq_true hb)).trans e
  have down : ∀ b o, G.get? b = some o → s.heap.get? b = some o := fun b o e => by
    by_cases hb : b = a
    · subst hb
      rw [ga] at e
      cases e
    · exact (g1 b (decide_eq_true hb)).symm.trans e
  have old : ∀ b o, X.s_0.heap.get? b = some o → b ≠ a := by
    rintro b o e rfl
    rw [n0] at e
    cases e
  have trk : ∀ b o, H b = some o → b ≠ a := by
    rintro b o e rfl
    rw [na] at e
    cases e
  have cellNe : ∀ c v, s.heap.IsCell c v → c ≠ a := by
    rintro c v ⟨o, e, dd⟩ rfl
    rw [ho] at e
    cases e
    rw [hd] at dd
    cases dd
  have cells : ∀ c v, s.heap.IsCell c v → G.IsCell c v := fun c v z => by
    have ne := cellNe c v z
    obtain ⟨o, e, dd⟩ := z
    exact ⟨o, up c o ne e, dd⟩
  refine ⟨G, down, ga, ⟨I.ok, I.os, I.bare, ?base, ?loc, ?cell, I.free, I.freeC, ?pin, ?hok, I.len⟩⟩
  case base =>
    exact { keep := fun b o e n hb hx => up b o (old b o e) (I.base.keep b o e n hb hx)
            slot := fun b o e n hb hx => by
              obtain ⟨sl, q⟩ := I.base.slot b o e n hb hx
              exact ⟨sl, up b _ (old b o e) q⟩
            free := I.base.free
            there := fun b o e hx => by
              obtain ⟨o', q⟩ := I.base.there b o e hx
              exact ⟨o', up b o' (old b o e) q⟩
            tups := I.base.tups
            frzs := I.base.frzs
            tbls := I.base.tbls }
  case loc =>
    obtain ⟨m, ⟨o, es, ep, e, r⟩, hl⟩ := I.loc
    refine ⟨m, ⟨o, es, ep, up _ _ nL.symm e, r⟩, fun i x v e1 e2 e3 => ?_⟩
    obtain ⟨u, r', l⟩ := hl i x v e1 e2 e3
    rcases l with l | ⟨k, c, ec, z⟩
    · exact ⟨u, r', Or.inl l⟩
    · exact ⟨u, r', Or.inr ⟨k, c, ec, cells c _ z⟩⟩
  case cell =>
    intro x c e
    obtain ⟨v, z⟩ := I.cell x c e
    exact ⟨v, cells c v z⟩
  case pin =>
    intro p hp
    obtain ⟨e, n, ne, nf, dd⟩ := I.pin p hp
    exact ⟨up _ _ (np p hp) e, n, ne, nf, dd⟩
  case hok =>
    intro b o e
    refine (I.hok b o e).stay (fun c u hc q => up c u ?_ q) (fun _ q => q) (fun _ _ q => q)
    rcases hc with hc | hc
    · rw [hc]
      exact trk b o e
    · exact trk c _ hc
/-- .. and be tracked from then on -/
theorem inv_more {a : Addr} {ob : Obj} {flds : Array Value} {cls : Value} {d : Option Addr} (I : Inv X pins σ H s) (na : H a = none) (n0 : X.s_0.heap.get? a = none) (ho : s.heap.get? a = some ob) (hz : Zc cls d ob) (hd : ob.data = .fields flds)
    (nL : a ≠ X.env.locals) (np : ∀ p ∈ X.pn ++ pins, p.1 ≠ a) : Inv X pins σ (upd H a (ExV cls d a)) s := by
  obtain ⟨G, down, ga, J⟩ := inv_less I na n0 ho hd nL np
  have J2 := J.laidN (h' := s.heap) (t' := s.toks) down ga na (exV_ok ho hz hd)
  exact J2
/-- what is kept of a pin when the suite ends -/
theorem inv_unsuite {a : Addr} {q : Addr × Obj} (I : Inv (X.suite a (q :: (X.pn ++ pins))) [] σ H s) (ok : X.Ok) : Inv X (q :: pins) σ H s := by
  refine ⟨ok, I.os, I.bare, I.base, I.loc, I.cell, I.free, I.freeC, fun p hp => I.pin p ?_, I.hok, I.len⟩
  rcases List.mem_append.mp hp with h | h
  · exact List.mem_append_left _ (List.mem_cons_of_mem _ (List.mem_append_left _ h))
  · rcases List.mem_cons.mp h with h | h
    · rw [h]
      exact List.mem_append_left _ List.mem_cons_self
    · exact List.mem_append_left _ (List.mem_cons_of_mem _ (List.mem_append_right _ h))
theorem inv_unpin {q : Addr × Obj} (I : Inv X (q :: pins) σ H s) : Inv X pins σ H s := by
  refine ⟨I.ok, I.os, I.bare, I.base, I.loc, I.cell, I.free, I.freeC, fun p hp => I.pin p ?_, I.hok, I.len⟩
  rcases List.mem_append.mp hp with h | h
  · exact List.mem_append_left _ h
  · exact List.mem_append_right _ (List.mem_cons_of_mem _ h)
end
/-- what «except x as n: v = n» wishes of an exception of the body: i is n's slot, j is v's -/
def wKeep (K : PySem.W.Frag) (c : Value) (i j : Nat) (Wout : WX) (D : Ends) : WX := fun cls d σ H => ∃ b, PySem.W.exmOne K cls c = some b ∧
  (b = true → ∀ a, H a = none → D.nx (((σ.set i (some (.ref a))).set j (some (.ref a))).set i none) (upd H a (ExV cls d a))) ∧ (b = false → Wout cls d σ H)
section
variable {X : Cx} {x n v : Str} {c : Value} {i j : Nat} {body : List Stmt} {np pos pos' p1 p2 p3 : Pos} {tb : WX → TS} {Wout : WX}
theorem ps_try_keep (hs : X.stack = X.env :: X.outer) (hf : X.env.frame = some X.env.locals) (hN : X.N.Nodup) (hi : X.N[i]? = some n) (hj : X.N[j]? = some v) (hne : i ≠ j) (hln : X.env.kindOf n = some .local) (hlv : X.env.kindOf v = some .local)
    (hex : X.ex = []) (hdn : (n == ("__debug__" : Str)) = false) (hcn : (n == ("__classdict__" : Str)) = false) (hc : Names X x c) (tk : Takes X Wout)
    (hb : ∀ (W : WX) (pn : List (Addr × Obj)) (xe : Value → Shared → Prop), Takes (X.tr pn xe) W → PassesOwn (model X.prog X.w) X.A X.env xe → PSs (X.tr pn xe) body (tb W)) :
    PS X (.Try body [.ExceptHandler (some (.Name x np)) (some n) [.Assign [.Name v p1] (.Name n p2) p3] pos'] [] [] pos) (fun D σ H => tb (wKeep X.K c i j Wout D) D σ H) := by
  refine ⟨fun pins s σ H D I h => ?_⟩
  have ok := I.ok
  have frm : X.A.frames = some (X.env :: X.outer) := by rw [ok.frames, hs]
  have locn : Loc X.env.scope n := Or.inl hln
  have locv : Loc X.env.scope v := Or.inl hlv
  refine wpAny_Try_except ?_
  let wish : Value → Shared → Prop := fun e s₁ => wpAny (model X.prog X.w) X.A (noteFrame e X.env) (fun _ s₂ => wpAny (model X.prog X.w) X.A (setFlight e none)
    (fun _ s₃ => wpAny (model X.prog X.w) X.A (handleBy e X.env [.ExceptHandler (some (.Name x np)) (some n) [.Assign [.Name v p1] (.Name n p2) p3] pos']) (SP X pins D) X.xe s₃) X.xe s₂) X.xe s₁
  have caught : Takes (X.tr (X.pn ++ pins) wish) (wKeep X.K c i j Wout D) := by
    intro u s' air
    obtain ⟨a, B, sI, pins', σ', H', cls, d, rfl, J', nb, upS, sky, na, os, ag, b, hb1, yes, no⟩ := air
    have J : Inv X pins σ' H' sI := J'.ofTry ok
    have sky2 : Sky B (X.env :: X.outer) a (Zc cls d) X.env.locals s'.heap := by rw [← hs]; exact sky
    have nB : B.get? a = none := by
      rcases sky2 with ⟨_, q, _⟩ | ⟨_, q, _⟩ | ⟨_, q, _⟩ <;> exact q
    show wpAny (model X.prog X.w) X.A (noteFrame (.ref a) X.env) _ _ _
    refine Sky.land Zc.steady frm hf sky2 fun h3 fl3 up3 => ?_
    have J3 : Inv X pins σ' H' { s' with heap := h3 } := J.landed nb fl3.1 (upS.trans up3) os ag
    obtain ⟨o3, v3, e3, z3, d3⟩ := fl3.there
    have nfr : a ∉ frs (X.env :: X.outer) := fun hm => by
      obtain ⟨_, o', e', hnf⟩ := fl3.2.2.1.mem hm
      rw [e3] at e'
      cases e'
      exact hnf _ d3
    have nL : a ≠ X.env.locals := fun z => nfr (List.mem_filterMap.mpr ⟨X.env, List.mem_cons_self, by rw [hf, z]⟩)
    have nF : a ∉ X.fs := fun hm => by
      obtain ⟨e, he, q⟩ := List.mem_filterMap.mp hm
      exact nfr (List.mem_filterMap.mpr ⟨e, List.mem_cons_of_mem _ he, q⟩)
    have n0 : X.s_0.heap.get? a = none := by
      cases q : X.s_0.heap.get? a with
      | none => rfl
      | some o =>
        obtain ⟨o', q'⟩ := J.base.there a o q (by rw [hex]; exact fun z => nomatch z)
        have q2 := nb a o' q' (by rw [hs]; exact nfr)
        rw [nB] at q2
        cases q2
    have S3 := J3.suite e3 d3 na nL nF
    refine wpAny_handleBy_cons (codeAny_handlers_test ?_) (by intro q; cases q)
    have LT : PySem.W.Looks (model X.prog X.w) h3 (typeOf (.ref a)) cls := fun A Q E s k q => wpAny_typeOf_ref (k _ _ e3) (by rw [z3.1]; exact q)
    have LM := PySem.W.exm_one (M := model X.prog X.w) (J3.kIn) LT hb1
    have clause : ∀ {Q : Value → Shared → Prop} {E : Value → Shared → Prop}, Q c { s' with heap := h3 } → wpAny (model X.prog X.w) (X.A.mark (some (.ref a))) (eval (.Name x np) X.env) Q E { s' with heap := h3 } := by
      intro Q E q
      obtain ⟨hg, hdbg, hm | ⟨hm, hv, hnn⟩⟩ := hc
      · exact ld_glob (X := X.suite a ((a, o3) :: (X.pn ++ pins))) S3 hg hm q hdbg
      · exact ld_blt (X := X.suite a ((a, o3) :: (X.pn ++ pins))) S3 hg hm hv q hnn hdbg
    refine clause (LM.here ?_)
    cases b with
    | true =>
      refine codeAny_handlers_suite_as ?_
      refine HandSPX.lands_againZ fl3 fun h4 fl4 up4 => ?_
      have J4 : Inv X pins σ' H' { s' with heap := h4 } := J.landed nb fl4.1 ((upS.trans up3).trans up4) os ag
      obtain ⟨o4, v4, e4, z4, d4⟩ := fl4.there
      have S4 := J4.suite e4 d4 na nL nF
      refine store_ok (X := X.suite a ((a, o4) :: (X.pn ++ pins))) (v := .ref a) S4 hN hi locn rfl (fun s5 S5 => ?_) (Or.inr hln)
      have hl5 : i < σ'.length := by
        have := J.len
        rw [this]
        exact (List.getElem?_eq_some_iff.mp hi).1
      have term : PSs (X.suite a ((a, o4) :: (X.pn ++ pins))) [.Assign [.Name v p1] (.Name n p2) p3] _ := pss_one (ps_asg (pe_var (X := X.suite a ((a, o4) :: (X.pn ++ pins))) hi (Or.inl hln) hdn hcn) (pg_name (X := X.suite a ((a, o4) :: (X.pn ++ pins))) hN hj locv (Or.inr hlv)))
      refine wpAny_mono (term.run [] s5 _ H' { nx := fun σ6 H6 => σ6 = (σ'.set i (some (.ref a))).set j (some (.ref a)) ∧ H6 = H', rt := fun _ _ => False, bk := fun _ _ => False, ct := fun _ _ => False } S5 ?_) (fun f s6 hsp => ?_) (fun _ _ z => z.elim)
      · exact ⟨_, by rw [List.getElem?_set_self hl5], rfl, rfl⟩
      · cases f with
        | next =>
          obtain ⟨σ6, H6, S6, e6, e7⟩ := hsp
          subst e6 e7
          refine gone_ok (inv_unsuite S6 ok) hN hi hln fun s7 J7 => ?_
          obtain ⟨p7, n7, _⟩ := J7.pin (a, o4) (List.mem_append_right _ List.mem_cons_self)
          have np : ∀ p ∈ X.pn ++ pins, p.1 ≠ a := fun p hp e => by
            have q1 := (J.pin p hp).1
            rw [e] at q1
            have q2 := nb a _ q1 (by rw [hs]; exact nfr)
            rw [nB] at q2
            cases q2
          exact ⟨_, _, inv_more (inv_unpin J7) na n0 p7 z4 d4 nL np, yes rfl a na⟩
        | ret u => obtain ⟨_, _, _, _, _, q⟩ := hsp; exact q.elim
        | brk => obtain ⟨_, _, _, q⟩ := hsp; exact q.elim
        | cont => obtain ⟨_, _, _, q⟩ := hsp; exact q.elim
    | false =>
      show wpAny _ X.A (handleBy (.ref a) X.env []) _ _ _
      refine wpAny_handleBy_nil ?_
      obtain ⟨k1, k2, k3, ob, fl, T, oT, ts', he, hz, hd, h1, hr⟩ := id fl3
      unfold PySem.passOn
      refine wpAny_bind (wpAny_field he hd h1 ?_)
      rw [if_neg (show ¬ ((Value.ref T == Value.none) = true) from by simp)]
      have go : wpAny (model X.prog X.w) X.A (setFlight (.ref a) X.env.frame) (fun _ s4 => wpAny (model X.prog X.w) X.A (throw (.ref a) : Sem Flow) (SP X pins D) X.xe s4) X.xe { s' with heap := h3 } := by
        rw [hf]
        refine HandSPX.setFlight_upZ fl3 fun h4 hh4 up4 => wpAny_throw (tk _ _ ?_)
        exact ⟨a, B, sI, pins, σ', H', cls, d, rfl, J, nb, (upS.trans up3).trans up4, Or.inr (Or.inr (by rw [hs]; exact hh4)), na, os, ag, no rfl⟩
      first
        | exact wpAny_bind (wpAny_pure (wpAny_bind go))
        | exact wpAny_bind go
  refine wpAny_mono ((hb _ (X.pn ++ pins) wish caught PassesOwn.looking).run [] s σ H D (I.toTry _) h) (fun f s1 hsp => ?_) (fun e s1 he => he)
  cases f with
  | next =>
    obtain ⟨σ', H', J', q⟩ := hsp
    exact wpAny_execs_nil ⟨σ', H', J'.ofTry ok, q⟩
  | brk =>
    obtain ⟨σ', H', J', q⟩ := hsp
    exact ⟨σ', H', J'.ofTry ok, q⟩
  | cont =>
    obtain ⟨σ', H', J', q⟩ := hsp
    exact ⟨σ', H', J'.ofTry ok, q⟩
  | ret u =>
    obtain ⟨vv, σ', H', J', r, q⟩ := hsp
    exact ⟨vv, σ', H', J'.ofTry ok, r, q⟩
end
end GL
set_option maxRecDepth 100000
set_option maxHeartbeats 2000000
namespace GL
open PySem PySem.Spec PyProof.Rows L2
section
variable {X : Cx}
/-- Z(), an own exception class without own __init__ -/
theorem pmk_bare {C : Addr} {bmB : List Value} {B newId initId : String} {x : Str} {p pos : Pos} (F : ExcBaseFacts B newId initId bmB) (q : PySem.W.excIn X.K C bmB newId = true) (gC : X.mg x = some (.ref C)) (kC : PySem.W.keepIn X.K (.ref C) = true)
    (r : Raises X (.ref C)) (hg : Gl X x) (hdb : (x == ("__debug__" : Str)) = false := by decide) : PMk X (.Call (.Name x p) [] [] pos) (fun _ H Q => Q (.ref C) none H) := by
  intro pins s σ H Q I h
  refine wpAny_Call_Name_kw (ld_glob I hg gC ?_ hdb)
  refine PySem.W.callWith_K0 I.kIn kC ?_
  obtain ⟨bm, N, nm, qn, bs, hdct, sn, sub, ab, col, dd, k0, k1, k2, k3, k5, mN, hC, hN, hni, T⟩ := exc_obj I.kIn q
  refine wpAny_call_exc_subT F T hC hN hni (fun h' e hm => ?_) (by show 0 ≤ sizeLine; exact Nat.zero_le _)
  exact mk_of I hm r h (I.hok.gone hm.new)
/-- isinstance(v, c), v a kept exception without a dict of its own -/
def rIsV (K : PySem.W.Frag) : List V → Hp → VK → Prop := fun xs H Q => ∃ (a D : Addr) (c : V) (u : Value) (b : Bool), xs = [.ref a, c] ∧ ExcC K D ∧ H a = some (ExV (.ref D) none a) ∧ ClsV c u ∧ PySem.W.kitOne K (.ref D) u = some b ∧ Q (.bl b) H
theorem call_isV : CallR X (.builtin "isinstance") (rIsV X.K) := by
  intro pins s σ H xs us Q I r h
  obtain ⟨a, D, c, u, b, rfl, hD, ha, hc, e, q⟩ := h
  cases r with
  | cons rx rr =>
    cases rr with
    | cons rt rr =>
      cases rr
      cases rx
      have ec := hc.eq rt
      subst ec
      obtain ⟨⟨ob, flds, hget, hz, hd⟩, _, _⟩ := I.hok a _ ha
      have J : PySem.W.InstAt s.heap a ob D none := by
        obtain ⟨oc, od, oda, osl⟩ := ob
        obtain ⟨h1, h2⟩ := hz
        dsimp only at h1 h2 hd
        subst h1 h2 hd
        exact ⟨hget, rfl, rfl, trivial⟩
      exact PySem.W.kia_one (PySem.W.handS_kitx_exc hD.hg hD.hk hD.hs hD.hd hD.ha hD.hn hD.ht hD.hm) I.kIn J e (fun z => nomatch z) fun tk => ⟨.bl b, H, I.tok tk, rfl, q⟩
/-- o.m() that may raise, the wish by the slots -/
def tMethX0 (C : Addr) (m : Str) (sp : Sp) (E : L2.St → XK) (ta : TE) : TE := fun σ H Q => ta σ H fun x H1 => ∃ a dx fs, x = .ref a ∧ H1 a = some (.ins C dx fs) ∧ fs.lookup m = none ∧ sp [x] H1 Q (E σ)
variable {CX : CXT} {k : Nat} {f C : Addr} {fd : FuncData} {ps : List Str} {sp : Sp} {E : L2.St → XK} {m : Str} {p pos apos : Pos} {o : Expr} {ta : TE}
theorem pe_methX0 {pl : Sem Bool} (he : PE X o ta) (c : Cls X.K C) (hm : Meth X.K C m f) (F : FnOk X.prog X.w X.K X.mg X.base CX k f fd ps sp) (hr : Room k X.A) (hb : L2.Binds X.K fd ps []) (hx : ∀ σ, PassesAt CX X σ (E σ))
    (ht : eval (.Call (.Attribute o m apos) [] [] pos) X.env = (do
      let obj ← eval o X.env
      standAt apos.atName
      let (g, first) ← holding [obj] (getMethod obj m pl)
      callWith pos g first (backTo pos (starEach [] X.env)) (backToKw pos (keywordEach [] X.env))) := by rfl) :
    PE X (.Call (.Attribute o m apos) [] [] pos) (tMethX0 C m sp E ta) := by
  refine ⟨fun pins s σ H Q I h => ?_⟩
  refine PySem.W.methodCall_KW (pl := pl) (thn (he.run pins s σ H _ I h) fun u s1 hh => ?_) ht
  obtain ⟨x, H1, I1, rx, a, dx, fs, ex, ea, l, q⟩ := hh
  subst ex
  obtain rfl : u = Value.ref a := rx
  refine getmeth_ok I1 ea c hm l ?_
  exact PySem.W.callWith_K0 (first := [.ref a]) I1.kIn hm.kp (run_fnS (us := [.ref a]) (vs := [.ref a]) F hr hb (hx σ) I1 (.cons rfl .nil) q)
end
end GL
set_option maxRecDepth 100000
set_option maxHeartbeats 2000000
namespace GL
open PySem PySem.Spec PyProof.Rows L2
/-- cls(..), the i-th slot holds the class at C -/
def tMakeL (i : Nat) (C : Addr) (sp : Sp) (dvs : List V) (E : XK) (t : TA) : TE := fun σ H Q => σ[i]? = some (some (.ref C)) ∧ t σ H fun vs H1 => ∀ x dx, H1 x = none → H1 dx = none → dx ≠ x →
  sp (.ref x :: (vs ++ dvs)) (upd (upd H1 dx (.own x)) x (.ins C dx [])) (fun v H2 => v = .non ∧ Q (.ref x) H2) E
/-- C(..) that may raise, the wish by the slots -/
def tMakeX (C : Addr) (sp : Sp) (E : L2.St → XK) (t : TA) : TE := fun σ H Q => t σ H fun vs H1 => ∀ x dx, H1 x = none → H1 dx = none → dx ≠ x →
  sp (.ref x :: vs) (upd (upd H1 dx (.own x)) x (.ins C dx [])) (fun v H2 => v = .non ∧ Q (.ref x) H2) (E σ)
section
variable {X : Cx} {CX : CXT} {k i : Nat} {f C : Addr} {fd : FuncData} {ps : List Str} {sp : Sp} {dvs : List V} {ds : List Value} {E : XK} {ES : L2.St → XK} {x : Str} {p pos : Pos} {e : Expr} {es : List Expr} {t : TA}
theorem pe_makeL (M : Mk X.K C f) (F : FnOk X.prog X.w X.K X.mg X.base CX k f fd ps sp) (hr : Room (k + 1) X.A) (hN : X.N[i]? = some x) (hv : Vis X.env.scope x) (hb : L2.Binds X.K fd ps ds) (hd : Vals dvs ds) (hx : Passes CX X E) (ha : PA X (e :: es) t)
    (hdb : (x == ("__debug__" : Str)) = false := by decide) (hcd : (x == ("__classdict__" : Str)) = false := by decide)
    (he : starEach (e :: es) X.env = (false, eval e X.env) :: starEach es X.env := by rfl) (hpl : (backTo pos (starEach es X.env)).any (·.1) = false := by rfl) : PE X (.Call (.Name x p) (e :: es) [] pos) (tMakeL i C sp dvs E t) := by
  refine ⟨fun pins s σ H Q I h => ?_⟩
  obtain ⟨hs, ht⟩ := h
  refine wpAny_Call_Name_kw (thn ((pe_var (pos := p) hN hv hdb hcd).run pins s σ H (fun v H1 => v = .ref C ∧ H1 = H) I ⟨.ref C, hs, rfl, rfl⟩) fun u s1 ⟨v, H1, I1, r1, q1⟩ => ?_)
  obtain ⟨rfl, rfl⟩ := q1
  cases r1
  refine PySem.W.callWith_K (h₀ := X.base) I.ok.mod.kin M.kp (thn (ha.run pos pins s1 σ _ _ I1 ht) fun us s2 ⟨vs, H2, I2, r, q⟩ => ⟨I2.kIn, ?_⟩) he hpl
  exact run_make M F hr hb hd hx I2 r q
theorem run_makeS {pins : List (Addr × Obj)} {σ : L2.St} {H : Hp} {s : Shared} {Q : VK} {us : List Value} {vs : List V} (M : Mk X.K C f) (F : FnOk X.prog X.w X.K X.mg X.base CX k f fd ps sp) (hr : Room (k + 1) X.A) (hb : L2.Binds X.K fd ps [])
    (hx : PassesAt CX X σ (ES σ)) (I : Inv X pins σ H s) (r : Vals vs us)
    (h : ∀ x dx, H x = none → H dx = none → dx ≠ x → sp (.ref x :: vs) (upd (upd H dx (.own x)) x (.ins C dx [])) (fun v H2 => v = .non ∧ Q (.ref x) H2) (ES σ)) :
    wpAny (model X.prog X.w) X.A (call (.ref C) us) (EP X pins σ Q) X.xe s := by
  have hq := h (s.heap.objs.size + 1) s.heap.objs.size (I.hok.fresh (Nat.le_succ _)) (I.hok.fresh (Nat.le_refl _)) (Nat.ne_of_lt (Nat.lt_succ_self _))
  have I2 := Inv.made (C := C) I
  have r2 : Vals (V.ref (s.heap.objs.size + 1) :: vs) (Value.ref (s.heap.objs.size + 1) :: us) := .cons rfl r
  have hl : (Value.ref (s.heap.objs.size + 1) :: us).length = ps.length := by
    have e := r2.length
    rw [F.len _ _ _ _ hq] at e
    exact e.symm
  have b := hb _ (Value.ref (s.heap.objs.size + 1) :: us) I2.kIn (by rw [List.append_nil]; exact hl)
  rw [List.append_nil] at b
  refine wpAny_call (make_map (f := f) I.kIn M.makes M.init (beq_iff_eq.mp M.fn) (codeAny_mono (F.run _ X.stack _ _ ⟨Value.ref (s.heap.objs.size + 1) :: us, []⟩ (Value.ref (s.heap.objs.size + 1) :: us) _ _ (ES σ) (hr.make C us [])
    (I2.env0.make C us []) b r2 hq) fun r s' hq' => ?_))
  cases r with
  | error e => exact hx pins _ _ e s' I2 hq'
  | ok fl =>
    cases fl with
    | ret u =>
      obtain ⟨v, H', I3, rv, ev, q3⟩ := I2.after hq'
      subst ev
      exact ⟨rv, ⟨V.ref (s.heap.objs.size + 1), H', I3, rfl, q3⟩⟩
    | next => exact False.elim hq'
    | brk => exact False.elim hq'
    | cont => exact False.elim hq'
theorem pe_makeX (M : Mk X.K C f) (F : FnOk X.prog X.w X.K X.mg X.base CX k f fd ps sp) (hr : Room (k + 1) X.A) (hg : Gl X x) (hm : X.mg x = some (.ref C)) (hb : L2.Binds X.K fd ps []) (hx : ∀ σ, PassesAt CX X σ (ES σ))
    (ha : PA X (e :: es) t) (hdb : (x == ("__debug__" : Str)) = false := by decide) (he : starEach (e :: es) X.env = (false, eval e X.env) :: starEach es X.env := by rfl) (hpl : (backTo pos (starEach es X.env)).any (·.1) = false := by rfl) :
    PE X (.Call (.Name x p) (e :: es) [] pos) (tMakeX C sp ES t) := by
  refine ⟨fun pins s σ H Q I h => ?_⟩
  refine wpAny_Call_Name_kw (ld_glob I hg hm ?_ hdb)
  refine PySem.W.callWith_K (h₀ := X.base) I.ok.mod.kin M.kp (thn (ha.run pos pins s σ H _ I h) fun us s1 ⟨vs, H1, I1, r, q⟩ => ⟨I1.kIn, ?_⟩) he hpl
  exact run_makeS M F hr hb (hx σ) I1 r q
end
end GL
set_option maxRecDepth 100000
set_option maxHeartbeats 1000000
namespace GL
open PySem PySem.Spec PyProof.Rows L2 PySem.SeqAt
open AutoSeq1 (wpAny_loadPart')
open MeetsSeq
theorem int_no (i : Int) (u : Tok) (b C dx : Addr) : Meets (Builtin.«int.__eq__» ⟨[.int i u, .ref b], []⟩) (fun _ R s => s.heap.get? b = some (PySem.W.instObj C dx) ∧ R (.ok (.ret .notImplemented)) s) :=
  .of_wp fun prog w A R s h => by
    obtain ⟨hp, g, d, tk, os⟩ := s
    obtain ⟨hl, h⟩ := h
    wp_walk using wpAny_loadPart' hl, wpAny_load hl
    exact ⟨_, rfl, h⟩
theorem bool_no (i : Bool) (b C dx : Addr) : Meets (Builtin.«int.__eq__» ⟨[.bool i, .ref b], []⟩) (fun _ R s => s.heap.get? b = some (PySem.W.instObj C dx) ∧ R (.ok (.ret .notImplemented)) s) :=
  .of_wp fun prog w A R s h => by
    obtain ⟨hp, g, d, tk, os⟩ := s
    obtain ⟨hl, h⟩ := h
    wp_walk using wpAny_loadPart' hl, wpAny_load hl
    exact ⟨_, rfl, h⟩
theorem str_no (i : Str) (u : Tok) (b C dx : Addr) : Meets (Builtin.«str.__eq__» ⟨[.str i u, .ref b], []⟩) (fun _ R s => s.heap.get? b = some (PySem.W.instObj C dx) ∧ R (.ok (.ret .notImplemented)) s) :=
  .of_wp fun prog w A R s h => by
    obtain ⟨hp, g, d, tk, os⟩ := s
    obtain ⟨hl, h⟩ := h
    wp_walk using wpAny_loadPart' hl, wpAny_load hl
    exact ⟨_, rfl, h⟩
theorem isi_no {K : PySem.W.Frag} {prog : Program} {w : World} {A : Around} {E : Value → Shared → Prop} {s : Shared} {b C : Addr} {ox : Obj} {od : Option Obj} {T : String} {Q : Bool → Shared → Prop} (X : K.In s.heap) (J : PySem.W.InstAt s.heap b ox C od)
    (e : PySem.W.subIn K (.ref C) (.type T) = some false) (h : Q false s) : wpAny (model prog w) A (isInstance (.ref b) (.type T)) Q E s := by
  unfold isInstance
  exact wpAny_bind (J.type.here ((PySem.W.looks_subIn X e).here h))
theorem list_no {K : PySem.W.Frag} (l b C : Addr) (ox : Obj) (od : Option Obj) (items : Array Value) (n : Nat) (e : PySem.W.subIn K (.ref C) (.type "list") = some false) :
    Meets (Builtin.«list.__eq__» ⟨[.ref l, .ref b], []⟩) (fun _ R s => K.In s.heap ∧ PySem.W.InstAt s.heap b ox C od ∧ s.heap.get? l = some { cls := .type "list", data := .seq items n } ∧ R (.ok (.ret .notImplemented)) s) :=
  .of_wp fun prog w A R s h => by
    obtain ⟨hp, g, d, tk, os⟩ := s
    obtain ⟨X, J, hl, h⟩ := h
    wp_walk using wpAny_loadPart' hl, isi_no X J e
    exact ⟨_, rfl, h⟩
theorem tuple_no {K : PySem.W.Frag} (l b C : Addr) (ox : Obj) (od : Option Obj) (e : PySem.W.subIn K (.ref C) (.type "tuple") = some false) :
    Meets (Builtin.«tuple.__eq__» ⟨[.ref l, .ref b], []⟩) (fun _ R s => K.In s.heap ∧ PySem.W.InstAt s.heap b ox C od ∧ R (.ok (.ret .notImplemented)) s) :=
  .of_wp fun prog w A R s h => by
    obtain ⟨hp, g, d, tk, os⟩ := s
    obtain ⟨X, J, h⟩ := h
    wp_walk using isi_no X J e
    exact ⟨_, rfl, h⟩
theorem dict_no {K : PySem.W.Frag} (l b C : Addr) (ox : Obj) (od : Option Obj) (ol : Obj) (e : PySem.W.subIn K (.ref C) (.type "dict") = some false) :
    Meets (Builtin.«dict.__eq__» ⟨[.ref l, .ref b], []⟩) (fun _ R s => K.In s.heap ∧ PySem.W.InstAt s.heap b ox C od ∧ s.heap.get? l = some ol ∧ R (.ok (.ret .notImplemented)) s) :=
  .of_wp fun prog w A R s h => by
    obtain ⟨hp, g, d, tk, os⟩ := s
    obtain ⟨X, J, hl, h⟩ := h
    wp_walk using isi_no X J e, wpAny_loadPart' hl
    exact ⟨_, rfl, h⟩
end GL
namespace GL
open PySem PySem.Spec PyProof.Rows L2 PySem.SeqAt
open AutoSeq1 (wpAny_loadPart')
open MeetsSeq MeetsSeq2 MeetsSeq3 SeqRoads2 GQ
section
variable {prog : Program} {w : World} {A : Around} {E : Value → Shared → Prop} {s : Shared} {R : Result → Shared → Prop}
theorem ne_loopG (l b : Addr) (N : Nat) (I : Nat → Shared → Prop) (hl : ListI prog w A (fun e s' => R (.error e) s') l b N I)
    (fin : ∀ s, I N s → R (.ok (.ret (.bool false))) s) (k : Nat) :
    ∀ i : Nat, N - i = k → i ≤ N → ∀ s, I i s →
      wpAny (model prog w) A.in1 (Builtin.«list.__eq__.loop» ⟨[.ref l, .ref b, rawInt i, rawInt 3], []⟩) (FinOf prog w A R) (fun e s' => R (.error e) s') s := by
  induction k with
  | zero =>
    intro i hk hi s h
    obtain ⟨items, items2, n, n2, hl1, hb1, hs1, hs2, _⟩ := hl _ _ h
    have hi' : i = N := by omega
    have hR : R (.ok (.ret (.bool false))) s := fin s (hi' ▸ h)
    obtain ⟨hp, g, d, tk, os⟩ := s
    wp_walk using wpAny_loadPart' hl1, wpAny_loadPart' hb1
    have hi1 : items[((i : Nat) : Int).toNat]? = none := by simp; omega
    have hi2 : items2[((i : Nat) : Int).toNat]? = none := by simp; omega
    rw [hi1, hi2]
    wp_walk using wpAny_loadPart' hl1, wpAny_loadPart' hb1
    show R (.ok (.ret (.bool (items.size != items2.size)))) _
    rw [hs1, hs2]
    simpa using hR
  | succ k ih =>
    intro i hk hi s h
    obtain ⟨items, items2, n, n2, hl1, hb1, hs1, hs2, turn⟩ := hl _ _ h
    have hlt : i < items.size := by omega
    have hlt2 : i < items2.size := by omega
    have ht := turn hlt hlt2
    obtain ⟨hp, g, d, tk, os⟩ := s
    wp_walk using wpAny_loadPart' hl1, wpAny_loadPart' hb1
    have hi1 : items[((i : Nat) : Int).toNat]? = some items[i] := by simp [hlt]
    have hi2 : items2[((i : Nat) : Int).toNat]? = some items2[i] := by simp [hlt2]
    have hc : ((i : Int) + 1) = ((i + 1 : Nat) : Int) := by omega
    rw [hi1, hi2]
    refine wpAny_bind (wpAny_mono ht (fun r s2 h2 => ?_) fun _ _ x => x)
    obtain ⟨hr, h2⟩ := h2
    subst hr
    have hrec := ih (i + 1) (by omega) (by omega) s2 h2
    obtain ⟨hp2, g2, d2, tk2, os2⟩ := s2
    wp_walk
    rw [hc]
    exact ⟨plainId_quiet plain_eq_loop _, codeAny_builtin entry_eq_loop (by
      rw [Around.under_plainId plain_eq_loop _]
      exact hrec)⟩
theorem list_neG (l b : Addr) (N : Nat) (I : Nat → Shared → Prop) (hl : ListI prog w A (fun e s' => R (.error e) s') l b N I)
    (fin : ∀ s, I N s → R (.ok (.ret (.bool false))) s) {s : Shared} (h : I 0 s) :
    wpAny (model prog w) A.in1 (Builtin.«list.__ne__» ⟨[.ref l, .ref b], []⟩) (FinOf prog w A R) (fun e s' => R (.error e) s') s := by
  obtain ⟨items, items2, n, n2, hl1, hb1, hs1, hs2, _⟩ := hl _ _ h
  have hrec := ne_loopG (A := A) (R := R) l b N I hl fin _ 0 rfl (Nat.zero_le _) s h
  obtain ⟨hp, g, d, tk, os⟩ := s
  have f3 := AutoSeq1.sub_list_list
  have hne : ¬ (items.size != items2.size) = true := by simp [hs1, hs2]
  wp_walk using wpAny_loadPart' hl1, wpAny_loadPart' hb1
  exact ⟨plainId_quiet plain_eq_loop _, codeAny_builtin entry_eq_loop (by
    rw [Around.under_plainId plain_eq_loop _]
    exact hrec)⟩
theorem rc_listNe {l b : Addr} {N : Nat} {Q : Value → Shared → Prop} (hu : A.units < cLine) (I : Nat → Shared → Prop) (hl : ListI prog w A E l b N I)
    (fin : ∀ s, I N s → Q (.bool false) s) (h : I 0 s) : wpAny (model prog w) A (richCompare .NotEq (.ref l) (.ref b)) Q E s := by
  obtain ⟨items, items2, n, n2, hl1, hb1, _, _, _⟩ := hl _ _ h
  refine wpAny_richCompare_same_room (op := .NotEq) ⟨_, hl1, rfl⟩ ⟨_, hb1, rfl⟩ F.slot_list_ne (call_here F.slot_list_ne ⟨_, hl1, rfl⟩ F.entry_list_ne (F.args_list_ne_2 _ _) ?_) hu
  exact list_neG (R := wants (fun v s' => v ≠ .notImplemented ∧ Q v s') E) l b N I hl (fun s' q => ⟨(fun x => nomatch x), fin s' q⟩) h
/-- x in a list whose i-th item is equal -/
theorem contains_loopG (l : Addr) (items : Array Value) (x : Value) (n i : Nat) (hi : i < items.size) {s : Shared} (hl : s.heap.get? l = some { cls := .type "list", data := .seq items n })
    (h : wpAny (model prog w) A.in1 (eqBool items[i] x) (fun r s' => r = true ∧ R (.ok (.ret (.bool true))) s') (fun e s' => R (.error e) s') s) :
    wpAny (model prog w) A.in1 (Builtin.«list.__contains__.loop» ⟨[.ref l, x, rawInt i], []⟩) (FinOf prog w A R) (fun e s' => R (.error e) s') s := by
  obtain ⟨hp, g, d, tk, os⟩ := s
  wp_walk using wpAny_loadPart' hl
  have hi' : items[((i : Nat) : Int).toNat]? = some items[i] := by simp [hi]
  rw [hi']
  refine wpAny_bind (wpAny_mono h (fun r s2 h2 => ?_) fun _ _ x => x)
  obtain ⟨hr, h2⟩ := h2
  subst hr
  obtain ⟨hp2, g2, d2, tk2, os2⟩ := s2
  wp_walk
  exact h2
/-- .. whose first item is equal -/
theorem contains_oneG (l : Addr) (items : Array Value) (x : Value) (n : Nat) (hi : 0 < items.size) {s : Shared} (hl : s.heap.get? l = some { cls := .type "list", data := .seq items n })
    (h : wpAny (model prog w) A.in1 (eqBool items[0] x) (fun r s' => r = true ∧ R (.ok (.ret (.bool true))) s') (fun e s' => R (.error e) s') s) :
    wpAny (model prog w) A.in1 (Builtin.«list.__contains__» ⟨[.ref l, x], []⟩) (FinOf prog w A R) (fun e s' => R (.error e) s') s := by
  have hrec := contains_loopG (A := A) (R := R) l items x n 0 hi hl h
  obtain ⟨hp, g, d, tk, os⟩ := s
  wp_walk using wpAny_loadPart' hl
  exact ⟨plainId_quiet plain_contains_loop _, codeAny_builtin entry_contains_loop (by
    rw [Around.under_plainId plain_contains_loop _]
    exact hrec)⟩
theorem notIn_oneG {l : Addr} {items : Array Value} {x : Value} {n : Nat} {Q : Value → Shared → Prop} (hi : 0 < items.size) (hl : s.heap.get? l = some { cls := .type "list", data := .seq items n })
    (h : wpAny (model prog w) A.in1 (eqBool items[0] x) (fun r s' => r = true ∧ Q (.bool false) s') E s) : wpAny (model prog w) A (compareOp .NotIn x (.ref l)) Q E s := by
  show wpAny _ A (do return .bool (!(← contains (.ref l) x))) Q E s
  refine wpAny_bind (wpAny_contains_slot ⟨_, hl, rfl⟩ F.slot_list_contains (wpAny_mono (call_here (Q := fun v s' => v = .bool true ∧ Q (.bool false) s') F.slot_list_contains ⟨_, hl, rfl⟩ F.entry_list_contains (F.args_list_contains_2 _ _)
    (contains_oneG (R := wants (fun v s' => v = .bool true ∧ Q (.bool false) s') E) l items x n hi hl (wpAny_mono h (fun r s' q => ⟨q.1, rfl, q.2⟩) fun _ _ x => x))) (fun v s' hv => ?_) fun _ _ e => e))
  obtain ⟨rfl, hq⟩ := hv
  exact wpAny_truthy_bool (wpAny_pure hq)
/-- y == b, y of a built-in type that declines, b an instance with its own == -/
theorem rc_refl {K : PySem.W.Frag} {h₀ : Heap} {L : Addr} {m : Str → Option Value} {y : Value} {T id : String} {b C f : Addr} {ox : Obj} {od : Option Obj} {Q : Value → Shared → Prop} (hu : A.units < cLine) (F : Fr h₀ L s.heap m) (X₀ : K.In h₀)
    (hy : s.TypeIs y T) (J : PySem.W.InstAt s.heap b ox C od) (e : PySem.W.subIn K (.ref C) (.type T) = some false) (h1 : Slot T (cmpInfo .Eq).2.1 id)
    (hc : ∀ Q' : Value → Shared → Prop, Q' .notImplemented s → wpAny (model prog w) A (call (.builtin id) [y, .ref b]) Q' E s)
    (hs : PySem.W.findIn K (.ref C) (cmpInfo .Eq).2.2 = some (some (.ref f))) (hf : PySem.W.isFn K (.ref f) = true)
    (h : wpAny (model prog w) A (call (.ref f) [.ref b, y]) (PySem.W.CmpBack Q) E s) : wpAny (model prog w) A (richCompare .Eq y (.ref b)) Q E s := by
  have X := X₀.keeps F.keep
  have one : wpAny (model prog w) A (tryCompare (.ref b) (cmpInfo .Eq).2.2 y) (fun r s' => ∃ v, r = some v ∧ Q v s') E s := by
    unfold tryCompare
    refine wpAny_bind (PySem.W.ifBound_K X J hs hf (wpAny_mono h (fun v s' hv => ?_) fun _ _ e => e))
    cases v <;> first | exact hv.elim | exact wpAny_pure ⟨_, rfl, hv⟩
  rcases hi : cmpInfo CmpOp.Eq with ⟨sym, fn, r⟩
  rw [hi] at h1 one
  simp only [richCompare, hi, hy.oneThing_none]
  try with_reducible refine wpAny_holding ?_
  refine wpAny_bind (wpAny_cRoomFor_or (.inr hu) ?_)
  refine wpAny_bind (wpAny_typeOf hy (wpAny_bind (J.type.here ?_)))
  have hne : (Value.type T != Value.ref C) = true := by simp
  simp only [hne, if_true]
  refine wpAny_bind ((PySem.W.looks_subIn X e).here ?_)
  simp only [Bool.false_eq_true, if_false, Bool.not_false, if_true]
  refine wpAny_bind (m := tryCompare y _ (.ref b)) (wpAny_tryCompare_declines hy h1 (hc _ ⟨rfl, ?_⟩))
  refine wpAny_bind (m := tryCompare (.ref b) _ y) (wpAny_mono one (fun r s' z => ?_) fun _ _ e => e)
  obtain ⟨v, rfl, hq⟩ := z
  exact wpAny_pure hq
end
end GL
set_option maxRecDepth 100000
set_option maxHeartbeats 1000000
namespace GL
open PySem PySem.Spec PyProof.Rows L2
/-- what of the types of other values the class at C must have -/
structure Alien (K : PySem.W.Frag) (C : Addr) (T : String) : Prop where
  nf : PySem.W.notFirst K C (.type T) = true
  ki : PySem.W.kitOne K (.type T) (.ref C) = some false
  su : PySem.W.subIn K (.ref C) (.type T) = some false
section
variable {X : Cx}
variable {CX : CXT} {n : Nat} {g C : Addr} {sp : Sp} {E : XK} {m : Str}
/-- x op y by x's own def, y any value whose type is known -/
def rOwnV (K : PySem.W.Frag) (C : Addr) (sp : Sp) (E : XK) : R2 := fun x y H Q => ∃ a dx fs t, x = .ref a ∧ H a = some (.ins C dx fs) ∧ TyX K H y t ∧ PySem.W.notFirst K C t = true ∧ sp [x, y] H Q E
theorem op_ownV {op : CmpOp} (hop : ∀ a b, compareOp op a b = richCompare op a b) (hm : Meth X.K C (cmpInfo op).2.1 g)
    (F : FnR X.prog X.w X.K X.mg X.base CX n g sp) (hr : Room n X.A) (hx : Passes CX X E) : OpR X (compareOp op) (rOwnV X.K C sp E) := by
  intro pins s σ H x y v u Q I rx ry h
  obtain ⟨a, dx, fs, t, rfl, ha, ty, hnf, q⟩ := h
  cases (show v = Value.ref a from rx)
  obtain ⟨ox, od, J⟩ := inst_of I ha
  obtain ⟨Pr, Z, p, _⟩ := kit_of I ry ty
  obtain ⟨mm, hF⟩ := I.fr
  rw [hop]
  refine PySem.W.cmp_K (op := op) (tb := t) hr.units0 hF I.ok.mod.kin J (Z.ty _ _ I.kIn p) hnf hm.at_ hm.fn ?_
  refine wpAny_mono (wpAny_call (run_fnR (us := [.ref a, u]) (vs := [.ref a, y]) F hr hx I (.cons rfl (.cons ry .nil)) q)) (fun w' s' z => ?_) (fun _ _ z => z)
  obtain ⟨z', H', I', rz, qz⟩ := z
  exact back_ok rz ⟨z', H', I', rz, qz⟩
/-- the kinds of values on the left of == that know no instance -/
inductive Kd (K : PySem.W.Frag) (H : Hp) : V → String → Prop where
  | int (i : Int) : Kd K H (.int i) "int"
  | bl (b : Bool) : Kd K H (.bl b) "bool"
  | str (z : Str) : Kd K H (.str z) "str"
  | non : Kd K H .non "NoneType"
  | lst {a : Addr} {xs : List V} (e : H a = some (.lst xs)) : Kd K H (.ref a) "list"
  | tup {a : Addr} {xs : List V} (e : H a = some (.tup xs)) : Kd K H (.ref a) "tuple"
  | dK {a : Addr} {kvs : List (Key × V)} (e : H a = some (.dK kvs)) : Kd K H (.ref a) "dict"
theorem Kd.ty {K : PySem.W.Frag} {H : Hp} {x : V} {T : String} (k : Kd K H x T) : TyX K H x (.type T) := by
  cases k with
  | int i => exact .base (.int i)
  | bl b => exact .base (.bl b)
  | str z => exact .base (.str z)
  | non => exact .base .non
  | lst e => exact .base (.lst e)
  | tup e => exact .base (.tup e)
  | dK e => exact .base (.dK e)
def rRefl (K : PySem.W.Frag) (C : Addr) (sp : Sp) (E : XK) : R2 := fun x y H Q => ∃ b dx fs T, y = .ref b ∧ H b = some (.ins C dx fs) ∧ Kd K H x T ∧ PySem.W.subIn K (.ref C) (.type T) = some false ∧ sp [y, x] H Q E
theorem ins_obj {pins : List (Addr × Obj)} {σ : L2.St} {H : Hp} {s : Shared} {a C dx : Addr} {fs : List (Str × V)} (I : Inv X pins σ H s) (ha : H a = some (.ins C dx fs)) : s.heap.get? a = some (PySem.W.instObj C dx) := by
  obtain ⟨mA, O, _⟩ := ins_get I.hok ha
  exact O.obj
theorem op_refl (hm : Meth X.K C "__eq__" g) (F : FnR X.prog X.w X.K X.mg X.base CX n g sp) (hr : Room n X.A) (hx : Passes CX X E) : OpR X (compareOp .Eq) (rRefl X.K C sp E) := by
  intro pins s σ H x y v u Q I rx ry h
  obtain ⟨b, dx, fs, T, rfl, hb, kd, su, q⟩ := h
  cases (show u = Value.ref b from ry)
  obtain ⟨ox, od, J⟩ := inst_of I hb
  have ho := ins_obj I hb
  obtain ⟨mm, hF⟩ := I.fr
  have fin : wpAny (model X.prog X.w) X.A (call (.ref g) [.ref b, v]) (PySem.W.CmpBack (EP X pins σ Q)) X.xe s := by
    refine wpAny_mono (wpAny_call (run_fnR (us := [.ref b, v]) (vs := [.ref b, x]) F hr hx I (.cons rfl (.cons rx .nil)) q)) (fun w' s' z => ?_) (fun _ _ z => z)
    obtain ⟨z', H', I', rz, qz⟩ := z
    exact back_ok rz ⟨z', H', I', rz, qz⟩
  show wpAny _ _ (richCompare .Eq v (.ref b)) _ _ _
  cases kd with
  | int i =>
    obtain ⟨t, rfl⟩ := (show ∃ t, v = Value.int i t from rx)
    exact rc_refl hr.units0 hF I.ok.mod.kin (typeIs_int s i t) J su PySem.F.slot_int_eq (fun Q' q' => call_meets PySem.F.slot_int_eq (typeIs_int s i t) PySem.F.entry_int_eq (PySem.F.args_int_eq_2 _ _) (int_no i t b C dx) ⟨ho, q'⟩) hm.at_ hm.fn fin
  | bl y =>
    cases (show v = Value.bool y from rx)
    exact rc_refl hr.units0 hF I.ok.mod.kin rfl J su PySem.F.slot_bool_eq (fun Q' q' => call_meets PySem.F.slot_bool_eq rfl PySem.F.entry_int_eq (PySem.F.args_int_eq_2 _ _) (bool_no y b C dx) ⟨ho, q'⟩) hm.at_ hm.fn fin
  | str z =>
    obtain ⟨t, rfl⟩ := (show ∃ t, v = Value.str z t from rx)
    exact rc_refl hr.units0 hF I.ok.mod.kin (typeIs_str s z t) J su PySem.F.slot_str_eq (fun Q' q' => call_meets PySem.F.slot_str_eq (typeIs_str s z t) PySem.F.entry_str_eq (PySem.F.args_str_eq_2 _ _) (str_no z t b C dx) ⟨ho, q'⟩) hm.at_ hm.fn fin
  | non =>
    cases (show v = Value.none from rx)
    exact rc_refl hr.units0 hF I.ok.mod.kin rfl J su PySem.F.slot_NoneType_eq (fun Q' q' => call_gives PySem.F.slot_NoneType_eq rfl PySem.F.entry_NoneType_eq (PySem.F.args_NoneType_eq_2 _ _) (SeqAt.NoneType___eq___none_ref_0 b) q') hm.at_ hm.fn fin
  | @lst a xs e =>
    cases (show v = Value.ref a from rx)
    obtain ⟨_, its, k, _, h1⟩ := (show ObjOk X.prog X.w H s.heap a (.lst xs) from I.hok a _ e)
    exact rc_refl hr.units0 hF I.ok.mod.kin ⟨_, h1, rfl⟩ J su PySem.F.slot_list_eq (fun Q' q' => call_meets PySem.F.slot_list_eq ⟨_, h1, rfl⟩ PySem.F.entry_list_eq (PySem.F.args_list_eq_2 _ _) (list_no a b C ox od _ _ su) ⟨I.kIn, J, h1, q'⟩) hm.at_ hm.fn fin
  | @tup a xs e =>
    cases (show v = Value.ref a from rx)
    obtain ⟨_, its, _, o, h1, h2, _⟩ := (show ObjOk X.prog X.w H s.heap a (.tup xs) from I.hok a _ e)
    exact rc_refl hr.units0 hF I.ok.mod.kin ⟨o, h1, h2⟩ J su PySem.F.slot_tuple_eq (fun Q' q' => call_meets PySem.F.slot_tuple_eq ⟨o, h1, h2⟩ PySem.F.entry_tuple_eq (PySem.F.args_tuple_eq_2 _ _) (tuple_no a b C ox od su) ⟨I.kIn, J, q'⟩) hm.at_ hm.fn fin
  | @dK a kvs e =>
    cases (show v = Value.ref a from rx)
    obtain ⟨_, _, vs, _, o, es, ep, h1, h2, _⟩ := (show ObjOk X.prog X.w H s.heap a (.dK kvs) from I.hok a _ e)
    exact rc_refl hr.units0 hF I.ok.mod.kin ⟨o, h1, h2.1⟩ J su PySem.F.slot_dict_eq (fun Q' q' => call_meets PySem.F.slot_dict_eq ⟨o, h1, h2.1⟩ PySem.F.entry_dict_eq (PySem.F.args_dict_eq_2 _ _) (dict_no a b C ox od o su) ⟨I.kIn, J, h1, q'⟩) hm.at_ hm.fn fin
/-- x not in [z], z and x equal as D says -/
def rNotIn1 (D : Eqv) : R2 := fun x y H Q => ∃ l z, y = .ref l ∧ H l = some (.lst [z]) ∧ D z x H ∧ ∀ H', Ext H H' → Q (.bl false) H'
theorem op_notIn1 {D : Eqv} (h : EqG X n D) (hr : Room (n + 1) X.A) : OpR X (compareOp .NotIn) (rNotIn1 D) := by
  intro pins s σ H x y v u Q I rx ry hq
  obtain ⟨l, z, rfl, hl, d, q⟩ := hq
  cases (show u = Value.ref l from ry)
  obtain ⟨_, its, k, r, h1⟩ := (show ObjOk X.prog X.w H s.heap l (.lst [z]) from I.hok l _ hl)
  obtain ⟨zv, rfl, rz⟩ := r.one
  refine notIn_oneG (items := #[zv]) (show 0 < 1 by decide) h1 ?_
  refine wpAny_mono (h X.A.in1 pins s σ H z x zv v (Sub.in1 ⟨hr, rfl⟩) I rz rx d) (fun r s' q2 => ?_) fun _ _ x => x
  obtain ⟨hr', H', I', e⟩ := q2
  exact ⟨hr', .bl false, H', I', rfl, q H' e⟩
/-- xs != ys, the items equal as D says -/
def rNeG (D : Eqv) : R2 := fun x y H Q => DList D x y H ∧ ∀ H', Ext H H' → Q (.bl false) H'
theorem op_neG {D : Eqv} (hD : Mon D) (h : EqG X n D) (hr : Room (n + 1) X.A) : OpR X (compareOp .NotEq) (rNeG D) := by
  intro pins s σ H x y v u Q I rx ry hq
  obtain ⟨⟨a, b, xs, ys, rfl, rfl, ha, hb, p⟩, q⟩ := hq
  cases (show v = Value.ref a from rx)
  cases (show u = Value.ref b from ry)
  have sb : Sub X (n + 1) X.A := ⟨hr, rfl⟩
  show wpAny _ _ (richCompare .NotEq (.ref a) (.ref b)) _ _ _
  refine rc_listNe (N := xs.length) hr.units0 (fun _ s' => LoopI X pins σ H s') (fun i s' q => ?_) (fun s' q' => ?_) ⟨H, I, Ext.rfl'⟩
  · obtain ⟨H1, I1, e1⟩ := id q
    obtain ⟨z, its, k, r, e⟩ := I1.hok a _ (e1 _ _ ha)
    obtain ⟨z2, its2, k2, r2, e2⟩ := I1.hok b _ (e1 _ _ hb)
    refine ⟨its.toArray, its2.toArray, k, k2, e, e2, by rw [List.size_toArray, ← r.length], by rw [List.size_toArray, ← r2.length, ← p.1], fun h1 h2 => ?_⟩
    exact turnG hD h sb p r r2 i h1 h2 s' q
  · obtain ⟨H', I', e⟩ := q'
    exact ⟨.bl false, H', I', rfl, q H' e⟩
end
end GL
set_option maxRecDepth 100000
set_option maxHeartbeats 2000000
namespace MX
open PySem PySem.Spec PyProof.Rows L2
open TL
theorem tl_tx (n : Nat) : (tx (n : Int)).cps.toList = numL n := tl_num n
theorem uni_digit {c : Nat} (h : 48 ≤ c ∧ c ≤ 57) : Unicode.isDigit c = true := by
  have z : ∀ k, k < 10 → Unicode.isDigit (48 + k) = true := by decide +kernel
  have e : c = 48 + (c - 48) := by omega
  rw [e]
  exact z _ (by omega)
theorem isdigit_of {x : Str} (h : NumText.AllDigits x.cps.toList) (h0 : x.cps.toList ≠ []) : Txt.isdigit x = true := by
  unfold Txt.isdigit
  rw [Bool.and_eq_true]
  refine ⟨?_, ?_⟩
  · rw [decide_eq_true_eq, len_tl]
    exact Nat.pos_of_ne_zero fun e => h0 (List.length_eq_zero_iff.mp e)
  · rw [← Array.all_toList, List.all_eq_true]
    exact fun c hc => uni_digit (h c hc)
theorem isascii_of {x : Str} (h : NumText.AllDigits x.cps.toList) : Txt.isascii x = true := by
  unfold Txt.isascii
  rw [← Array.all_toList, List.all_eq_true]
  intro c hc
  have := h c hc
  exact decide_eq_true (by omega)
theorem isdigit_tx (n : Nat) : Txt.isdigit (tx (n : Int)) = true := isdigit_of (by rw [tl_tx]; exact numL_digits n) (by rw [tl_tx]; exact numL_ne n)
theorem isascii_tx (n : Nat) : Txt.isascii (tx (n : Int)) = true := isascii_of (by rw [tl_tx]; exact numL_digits n)
theorem tl_minus : (Str.ofString "-").cps.toList = [45] := by decide +kernel
theorem tl_slash : (Str.ofString "/").cps.toList = [47] := by decide +kernel
theorem len_minus : (Str.ofString "-").length = 1 := by rw [len_tl]; show (Str.ofString "-").cps.toList.length = 1; rw [tl_minus] <;> rfl
theorem strip_tx (n : Nat) : Txt.removeprefix (tx (n : Int)) (Str.ofString "-") = tx (n : Int) := by
  rw [PySem.StrLaws.removeprefix_eq]
  refine if_neg ?_
  rw [Bool.and_eq_true, not_and]
  intro _
  rw [PySem.StrLaws.subAt_eq, tl_tx, tl_minus, len_minus, List.drop_zero]
  intro e
  have e2 := eq_of_beq e
  cases hl : numL n with
  | nil => exact numL_ne n hl
  | cons c r =>
    rw [hl] at e2
    have e3 : c = 45 := by simpa using e2
    have := numL_digits n c (by rw [hl]; exact List.mem_cons_self)
    omega
theorem tl_neg {n : Nat} (h : 0 < n) : (tx (-(n : Int))).cps.toList = 45 :: numL n := by
  have e := tx_neg (i := -(n : Int)) (by omega)
  rw [Int.neg_neg] at e
  rw [← e]
  show tl (_ ++ _) = _
  rw [tl_append]
  show (Str.ofString "-").cps.toList ++ (tx (n : Int)).cps.toList = _
  rw [tl_minus, tl_tx] <;> rfl
theorem strip_neg {n : Nat} (h : 0 < n) : Txt.removeprefix (tx (-(n : Int))) (Str.ofString "-") = tx (n : Int) := by
  have hl : (tx (-(n : Int))).length = (numL n).length + 1 := by rw [len_tl]; show (tx (-(n : Int))).cps.toList.length = _; rw [tl_neg h] <;> rfl
  rw [PySem.StrLaws.removeprefix_eq, if_pos]
  · rw [tl_neg h, len_minus, hl]
    refine ext_tl ?_
    show ((45 :: numL n).drop 1).take ((numL n).length + 1 - 1) = (tx (n : Int)).cps.toList
    rw [tl_tx]
    simp
  · rw [Bool.and_eq_true]
    refine ⟨decide_eq_true (by rw [len_minus, hl]; omega), ?_⟩
    rw [PySem.StrLaws.subAt_eq, tl_neg h, tl_minus, len_minus, List.drop_zero]
    simp
/-- padded with zeros -/
theorem zfill_tl {n : Nat} {k : Nat} (h : (numL n).length < k) : (Txt.zfill (tx (n : Int)) (k : Int)).cps.toList = List.replicate (k - (numL n).length) 48 ++ numL n := by
  have hl : (tx (n : Int)).length = (numL n).length := by rw [len_tl]; show (tx (n : Int)).cps.toList.length = _; rw [tl_tx]
  unfold Txt.zfill
  rw [if_neg (by rw [hl]; omega), hl, Int.toNat_natCast]
  unfold zfilled
  have fin : (Builtin.Str.padded (tx (n : Int)) (k - (numL n).length) 0 48).cps.toList = List.replicate (k - (numL n).length) 48 ++ numL n := by
    rw [padded_list, tl_tx]
    simp
  have h0 : ∀ c, (tx (n : Int)).cps[0]? = some c → 48 ≤ c := fun c hc => by
    have : c ∈ (tx (n : Int)).cps.toList := by
      rw [← Array.getElem?_toList] at hc
      exact List.mem_of_getElem? hc
    rw [tl_tx] at this
    exact (numL_digits n c this).1
  split
  · rename_i e
    have := h0 _ e
    omega
  · rename_i e
    have := h0 _ e
    omega
  · exact fin
theorem val_zeros (k : Nat) (l : List Nat) : NumText.digitsVal (List.replicate k 48 ++ l) = NumText.digitsVal l := by
  unfold NumText.digitsVal
  rw [List.foldl_append]
  have e : (List.replicate k 48).foldl (fun acc c => acc * 10 + (c - 48)) 0 = 0 := by
    induction k with
    | zero => rfl
    | succ k ih =>
      rw [List.replicate_succ, List.foldl_cons]
      exact ih
  rw [e]
theorem zfill_len {n : Nat} {k : Nat} (h : (numL n).length < k) : (Txt.zfill (tx (n : Int)) (k : Int)).length = k := by
  rw [len_tl]
  show (Txt.zfill (tx (n : Int)) (k : Int)).cps.toList.length = k
  rw [zfill_tl h, List.length_append, List.length_replicate]
  omega
theorem zfill_digits {n : Nat} {k : Nat} (h : (numL n).length < k) : NumText.AllDigits (Txt.zfill (tx (n : Int)) (k : Int)).cps.toList := by
  rw [zfill_tl h]
  intro c hc
  rcases List.mem_append.mp hc with hc | hc
  · rw [List.eq_of_mem_replicate hc]
    omega
  · exact numL_digits n c hc
theorem zfill_int {n : Nat} {k : Nat} (h : (numL n).length < k) (hk : k ≤ 640) : intText? (Txt.zfill (tx (n : Int)) (k : Int)) = some (n : Int) := by
  rw [intText_digits (zfill_digits h) (by rw [zfill_tl h]; intro e; exact numL_ne n (List.append_eq_nil_iff.mp e).2) (by rw [zfill_len h]; omega), zfill_tl h, val_zeros, numL_val]
theorem cut_all {z : Str} {k : Nat} (h : z.length = k) : cutS z (some 0) (some (k : Int)) = z := by
  unfold cutS
  have e0 : HT.sIx z.length 0 (some 0) = 0 := by
    have := HT.sIx_nat z.length 0 0
    simpa using this
  rw [e0, HT.sIx_nat, h, Nat.min_self]
  refine ext_tl ?_
  show (z.cps.toList.drop 0).take (k - 0) = z.cps.toList
  rw [List.drop_zero, Nat.sub_zero]
  refine List.take_of_length_le ?_
  rw [← h, len_tl]
  exact Nat.le_refl _
/-- the text of a ratio, cut -/
theorem slash_free {i : Int} : 47 ∉ (tx i).cps.toList := by
  rcases Int.eq_nat_or_neg i with ⟨n, e | e⟩
  · subst e
    rw [tl_tx]
    exact numL_free (by omega)
  · subst e
    by_cases h : n = 0
    · subst h
      show 47 ∉ (tx ((0 : Nat) : Int)).cps.toList
      rw [tl_tx]
      exact numL_free (by omega)
    · rw [tl_neg (by omega)]
      intro hm
      rcases List.mem_cons.mp hm with e | e
      · omega
      · exact numL_free (n := n) (by omega) e
theorem part_slash {i j : Int} : Txt.partition (tx i ++ Str.ofString "/" ++ tx j) (Str.ofString "/") = (tx i, Str.ofString "/", tx j) := partition_app tl_slash slash_free
theorem part_none {i : Int} : Txt.partition (tx i) (Str.ofString "/") = (tx i, Str.empty, Str.empty) := partition_none tl_slash slash_free
theorem tx_inj {i j : Int} (h : tx i = tx j) : i = j := by
  have e := congrArg Str.cps h
  have e2 : (tx i).cps.toList = (tx j).cps.toList := by rw [h]
  rcases Int.eq_nat_or_neg i with ⟨m, rfl | rfl⟩ <;> rcases Int.eq_nat_or_neg j with ⟨n, rfl | rfl⟩
  · rw [tl_tx, tl_tx] at e2
    rw [numL_inj e2]
  · by_cases h0 : n = 0
    · subst h0
      rw [show (-((0 : Nat) : Int)) = ((0 : Nat) : Int) from rfl, tl_tx, tl_tx] at e2
      rw [numL_inj e2] <;> rfl
    · rw [tl_tx, tl_neg (by omega)] at e2
      have := numL_digits m 45 (by rw [e2]; exact List.mem_cons_self)
      omega
  · by_cases h0 : m = 0
    · subst h0
      rw [show (-((0 : Nat) : Int)) = ((0 : Nat) : Int) from rfl, tl_tx, tl_tx] at e2
      rw [← numL_inj e2] <;> rfl
    · rw [tl_tx, tl_neg (by omega)] at e2
      have := numL_digits n 45 (by rw [← e2]; exact List.mem_cons_self)
      omega
  · by_cases h0 : m = 0
    · subst h0
      by_cases h1 : n = 0
      · subst h1
        rfl
      · rw [show (-((0 : Nat) : Int)) = ((0 : Nat) : Int) from rfl, tl_tx, tl_neg (by omega)] at e2
        have := numL_digits 0 45 (by rw [e2]; exact List.mem_cons_self)
        omega
    · by_cases h1 : n = 0
      · subst h1
        rw [show (-((0 : Nat) : Int)) = ((0 : Nat) : Int) from rfl, tl_tx, tl_neg (by omega)] at e2
        have := numL_digits 0 45 (by rw [← e2]; exact List.mem_cons_self)
        omega
      · rw [tl_neg (by omega), tl_neg (by omega)] at e2
        rw [numL_inj (List.cons.inj e2).2]
theorem num_len {n : Nat} (h : Bd 1900 (n : Int)) : (numL n).length < 600 := by
  have e : (2 : Nat) ^ 1900 ≤ 10 ^ 599 := by decide +kernel
  have := numL_len (n := n) (k := 599) (by decide) (Nat.lt_of_lt_of_le h e)
  omega
end MX
set_option maxRecDepth 100000
set_option maxHeartbeats 2000000
namespace MX
open PySem PySem.Spec PyProof.Rows L2
open TL
/-- the last k digits of n, filled with zeros -/
def lastL (k n : Nat) : List Nat := match k with
  | 0 => []
  | k + 1 => lastL k (n / 10) ++ [48 + n % 10]
theorem lastL_len : ∀ k n, (lastL k n).length = k
  | 0, _ => rfl
  | k + 1, n => by
    show (lastL k (n / 10) ++ [48 + n % 10]).length = _
    rw [List.length_append, lastL_len k] <;> rfl
theorem lastL_zero : ∀ k, lastL k 0 = List.replicate k 48
  | 0 => rfl
  | k + 1 => by
    show lastL k (0 / 10) ++ [48 + 0 % 10] = _
    rw [Nat.zero_div, lastL_zero k, List.replicate_succ'] <;> rfl
/-- a number of at most k digits, filled -/
theorem lastL_fill : ∀ (k n : Nat), n < 10 ^ k → n ≠ 0 → (numL n).length ≤ k ∧ lastL k n = List.replicate (k - (numL n).length) 48 ++ numL n
  | 0, n, h, h0 => by
    rw [Nat.pow_zero] at h
    omega
  | k + 1, n, h, h0 => by
    show _ ∧ lastL k (n / 10) ++ [48 + n % 10] = _
    by_cases h1 : n < 10
    · rw [Nat.div_eq_of_lt h1, lastL_zero, numL_lt h1, Nat.mod_eq_of_lt h1]
      exact ⟨by show 1 ≤ _; omega, rfl⟩
    · have hd : n / 10 < 10 ^ k := by
        rw [Nat.pow_succ] at h
        omega
      obtain ⟨i1, i2⟩ := lastL_fill k (n / 10) hd (by omega)
      rw [numL_step (by omega), i2, List.length_append]
      refine ⟨by show _ + 1 ≤ _; omega, ?_⟩
      have e : k + 1 - ((numL (n / 10)).length + [48 + n % 10].length) = k - (numL (n / 10)).length := by
        show k + 1 - (_ + 1) = _
        omega
      rw [e, List.append_assoc]
/-- a number is its first digits and its last k ones -/
theorem numL_cut : ∀ (k n : Nat), 10 ^ k ≤ n → numL n = numL (n / 10 ^ k) ++ lastL k n
  | 0, n, h => by
    rw [Nat.pow_zero, Nat.div_one]
    show _ = _ ++ []
    rw [List.append_nil]
  | k + 1, n, h => by
    have h10 : 10 ≤ n := Nat.le_trans (by rw [Nat.pow_succ]; have := Nat.pow_pos (n := k) (show 0 < 10 by decide); omega) h
    have hk : 10 ^ k ≤ n / 10 := by
      rw [Nat.pow_succ] at h
      omega
    rw [numL_step h10, numL_cut k (n / 10) hk, Nat.div_div_eq_div_mul, ← Nat.pow_succ', List.append_assoc]
    rfl
theorem lastL_mod : ∀ (k n : Nat), lastL k (n % 10 ^ k) = lastL k n
  | 0, _ => rfl
  | k + 1, n => by
    show lastL k ((n % 10 ^ (k + 1)) / 10) ++ [48 + (n % 10 ^ (k + 1)) % 10] = lastL k (n / 10) ++ [48 + n % 10]
    have e1 : (n % 10 ^ (k + 1)) / 10 = (n / 10) % 10 ^ k := by
      rw [Nat.pow_succ', Nat.mod_mul_right_div_self]
    have e2 : (n % 10 ^ (k + 1)) % 10 = n % 10 := by
      rw [Nat.pow_succ', Nat.mod_mul_right_mod]
    rw [e1, e2, lastL_mod k (n / 10)]
/-- str(block).zfill(k) -/
theorem fill_last {k n : Nat} (hk : 0 < k) (h : n < 10 ^ k) : (Txt.zfill (tx (n : Int)) (k : Int)).cps.toList = lastL k n := by
  by_cases h0 : n = 0
  · subst h0
    by_cases h1 : k = 1
    · subst h1
      decide +kernel
    · have hl : (numL 0).length < k := by
        rw [numL_lt (by decide)]
        show 1 < k
        omega
      rw [zfill_tl hl, lastL_zero, numL_lt (by decide)]
      show List.replicate (k - 1) 48 ++ [48] = _
      have e : k = (k - 1) + 1 := by omega
      rw [e, List.replicate_succ'] <;> rfl
  · obtain ⟨i1, i2⟩ := lastL_fill k n h h0
    rcases Nat.lt_or_eq_of_le i1 with hl | hl
    · rw [zfill_tl hl, i2]
    · have el : (tx (n : Int)).length = (numL n).length := by rw [len_tl]; show (tx (n : Int)).cps.toList.length = _; rw [tl_tx]
      unfold Txt.zfill
      rw [if_pos (by rw [el]; omega), tl_tx, i2, hl, Nat.sub_self] <;> rfl
end MX
set_option maxRecDepth 100000
set_option maxHeartbeats 2000000
namespace GL
open PySem PySem.Spec PyProof.Rows L2
open PySem.Builtin PySem.Builtin.Str PySem.Builtin.Int
/-- the interpreter's bound on digits is as it was at the start -/
def NoDig (K : PySem.W.Frag) : Prop := PySem.W.nsIn K cStatics "sys.int_max_str_digits" = some none
section
variable {prog : Program} {w : World} {K : PySem.W.Frag} {A : Around} {E : Value → Shared → Prop} {s : Shared} {a : Int} {t : Tok}
theorem max_K {Q : Nat → Shared → Prop} (X : K.In s.heap) (hn : NoDig K) (h : Q 4300 s) : wpAny (model prog w) A Builtin.intMaxStrDigits Q E s := by
  unfold Builtin.intMaxStrDigits
  exact wpAny_bind ((PySem.W.looks_nsIn X hn).here (wpAny_pure h))
theorem over_K {Q : Option Nat → Shared → Prop} (X : K.In s.heap) (hn : NoDig K) (hlt : a.natAbs < 10 ^ 4300) (h1 : Q none s) : wpAny (model prog w) A (Builtin.overDigitLimit? a) Q E s := by
  generalize hP : 10 ^ 4300 = P at hlt
  have hi : P ≤ 2 ^ 30000 := hP ▸ pow_hi
  unfold Builtin.overDigitLimit?
  by_cases hs : a.natAbs.log2 < 1920
  · rw [if_pos hs]
    exact wpAny_pure h1
  · rw [if_neg hs]
    refine wpAny_bind (max_K X hn ?_)
    rw [hP]
    by_cases hz : a.natAbs.log2 / 30 + 1 > 1000
    · exact absurd hlt (Nat.not_lt.mpr (Nat.le_trans hi (le_of_log2 (by decide) (by omega))))
    · rw [if_neg hz]
      by_cases h3 : a.natAbs.log2 < 3 * 4300
      · rw [if_pos (by simp [h3])]
        exact wpAny_pure h1
      · rw [if_neg (by simp [h3]), if_neg (by omega)]
        exact wpAny_pure h1
theorem repr_K {Q : Value → Shared → Prop} (X : K.In s.heap) (hn : NoDig K) (hlt : a.natAbs < 10 ^ 4300) (h1 : Q (.str (toString a) s.toks) { s with toks := s.toks + 1 }) :
    wpAny (model prog w) A (call (.builtin "int.__repr__") [.int a t]) Q E s := by
  refine wpAny_call_entry F.slot_int_repr (typeIs_int s a t) F.entry_int_repr ?_ (F.args_int_repr_1 _)
  unfold Builtin.«int.__repr__»
  show wpAny _ _ (do let r ← Builtin.overDigitLimit? a; _) _ _ s
  refine wpAny_bind (over_K X hn hlt ?_)
  exact wpAny_bind (wpAny_mkStr (wpAny_pure ⟨_, rfl, h1⟩) (int_text_fits10 hlt))
theorem strOf_K {Q : Value → Shared → Prop} (X : K.In s.heap) (hn : NoDig K) (hlt : a.natAbs < 10 ^ 4300) (h1 : Q (.str (toString a) s.toks) { s with toks := s.toks + 1 }) :
    wpAny (model prog w) A (PySem.Builtin.Str.strOf (.int a t)) Q E s := by
  unfold PySem.Builtin.Str.strOf
  rw [show isExactStr (.int a t) = false from rfl]
  try (have hv : [Value.int a t].any Value.onHeap = false := rfl; simp only [cRoomFor, hv, Bool.false_eq_true, if_false, pure_bind])
  refine wpAny_bind (m := callSpecial? (.int a t) (Str.ofString "__str__")) (wpAny_callSpecial?_slot (name := Str.ofString "__str__") (typeIs_int s a t) F.slot_int_str ?_)
  refine wpAny_call_entry F.slot_int_str (typeIs_int s a t) entry_object_str ?_ (args_object_str _)
  unfold Builtin.«object.__str__»
  refine wpAny_bind (m := slotArgs "__str__" 0 _) (wpAny_pure ?_)
  try (have hv : [Value.int a t].any Value.onHeap = false := rfl; simp only [cRoomFor, hv, Bool.false_eq_true, if_false, pure_bind])
  refine wpAny_bind (m := callSpecialIfBound? (.int a t) (Str.ofString "__repr__")) (wpAny_callSpecialIfBound?_slot (name := Str.ofString "__repr__") (typeIs_int s a t) F.slot_int_repr
    (repr_K X hn hlt ?_))
  exact wpAny_pure ⟨_, rfl, wpAny_pure h1⟩
theorem str_K {Q : Value → Shared → Prop} (X : K.In s.heap) (hn : NoDig K) (hlt : a.natAbs < 10 ^ 4300) (h1 : Q (.str (toString a) s.toks) { s with toks := s.toks + 1 }) :
    wpAny (model prog w) A (call (.type "str") [.int a t]) Q E s :=
  callType_new F.called_str (by decide) (F.typeCall_str_1 _) (F.newCall_str_1 _) (fun obj => F.args_object_init_2 obj _) F.entry_str_new
    (meets_str_new (S := fun A R s => K.In s.heap ∧ a.natAbs < 10 ^ 4300 ∧ R (.ok (.ret (.str (toString a) s.toks))) { s with toks := s.toks + 1 })
      fun _ _ _ _ _ hq => strOf_K hq.1 hn hq.2.1 hq.2.2)
    ⟨X, hlt, ⟨typeIs_str _ _ _, h1⟩⟩
end
section
variable {X : Cx}
/-- str(i), i of at most 4300 digits -/
theorem call_str_intW (hn : NoDig X.K) : CallR X (.type "str") (fun xs H Q => ∃ i : Int, xs = [.int i] ∧ i.natAbs < 10 ^ 4300 ∧ Q (.str (MX.tx i)) H) := by
  intro pins s σ H xs us Q I r h
  obtain ⟨i, rfl, hi, q⟩ := h
  obtain ⟨u, rfl, ru⟩ := r.one
  obtain ⟨t, rfl⟩ := (show ∃ t, u = Value.int i t from ru)
  exact str_K I.kIn hn hi ⟨.str (MX.tx i), H, I.tok _, ⟨_, rfl⟩, q⟩
end
end GL
set_option maxRecDepth 100000
set_option maxHeartbeats 1000000
namespace RT
open PySem PySem.Spec PyProof.Rows L2 GL MX TL
/-- of at most 2400 digits -/
def Dg (n : Int) : Prop := n.natAbs < 10 ^ 2400
theorem Dg.big {n : Int} (h : Dg n) : n.natAbs < 10 ^ 4300 := Nat.lt_of_lt_of_le h (Nat.pow_le_pow_right (by decide) (by decide))
def spDigW : Sp := fun vs H Q _ => ∃ n : Int, vs = [.int n] ∧ Dg n ∧ ∀ H', Same H H' → Q (.str (tx n)) H'
def flatS (bs : List Str) : List Nat := (bs.reverse.map fun z => z.cps.toList).flatten
theorem join_flat (ps : List Str) : (Txt.join Str.empty ps).cps.toList = (ps.map fun z => z.cps.toList).flatten := by
  rw [join_eq]
  have h := tl_join Str.empty ps
  have e : tl Str.empty = [] := rfl
  rw [e] at h
  show tl (Str.join Str.empty ps) = _
  rw [h]
  have j : ∀ ls : List (List Nat), joinL [] ls = ls.flatten := fun ls => by
    induction ls with
    | nil => rfl
    | cons a r ih =>
      cases r with
      | nil => simp [joinL]
      | cons b r => rw [List.flatten_cons, ← ih]; rfl
  exact j _
section
variable {P : Program} {w : World} {K : PySem.W.Frag} {mg : Str → Option Value} {base : Heap} {C f : Addr} {fd : FuncData}
theorem ok_digW (F : FnP K "_digits" "_digits" sDig f fd) (T : Txt K mg C) (hN : NoDig K) (hbd : ∃ t, mg "_BLOCK_DIGITS" = some (.int 600 t)) (hdm : mg "divmod" = none) : FnOk P w K mg base CX0 1 f fd ["number"] spDigW := by
  obtain ⟨tb, hblk⟩ := T.blk
  obtain ⟨td, hbd⟩ := hbd
  refine F.ok scD (fun vs H Q E h => ?_) (fun cdv A outer s H vs Q E hr h => ?_)
  · obtain ⟨n, rfl, _⟩ := h
    rfl
  · obtain ⟨n, rfl, hz, k⟩ := h
    have nd := scD.nd
    refine ⟨_, PSs.nox (pss_cons (ps_set (i := 1) nd rfl (Or.inl rfl) (pe_callB call_abs (by rfl) T.abs (by decide +kernel) (pa_cons (pv 0) pa_nil)))
      (pss_cons (ps_set (i := 2) nd rfl (Or.inl rfl) (pe_lst pa_nil))
      (pss_cons (ps_while PassesOwn.never (pt_cmpR op_ge (pv 1) (pe_glob (v := V.int Bk) rfl hblk ⟨_, rfl⟩) (nomark _)) (pss_cons (ps_asg (pe_callB call_divmodW (by rfl) hdm (by decide +kernel) (pa_cons (pv 1) (pa_cons (pe_glob (v := V.int Bk) rfl hblk ⟨_, rfl⟩) pa_nil))) (pg_tup (by rfl) (pgs_cons (pg_name (i := 1) nd rfl (Or.inl rfl)) (pgs_cons (pg_name (i := 3) nd rfl (Or.inl rfl)) pgs_nil))))
      (pss_one (ps_expr (pe_bm PySem.F.plainAttrs_list PySem.F.slot_list_append PySem.F.type_list_append mt_append (pv 2) (pa_cons (pe_m1 PySem.F.slot_str_zfill PySem.F.type_str_zfill mt_zfill (pe_callTy (call_str_intW hN) (by rfl) T.str (by decide +kernel) (pa_cons (pv 3) pa_nil)) (pe_glob (v := V.int 600) rfl hbd ⟨_, rfl⟩)) pa_nil))))))
      (pss_cons (ps_expr (pe_bm PySem.F.plainAttrs_list PySem.F.slot_list_append PySem.F.type_list_append mt_append (pv 2) (pa_cons (pe_callTy (call_str_intW hN) (by rfl) T.str (by decide +kernel) (pa_cons (pv 1) pa_nil)) pa_nil)))
      (pss_cons (ps_if (pt_cmpR op_lt (pv 0) pe_int (nomark _)) (pss_one (ps_expr (pe_bm PySem.F.plainAttrs_list PySem.F.slot_list_append PySem.F.type_list_append mt_append (pv 2) (pa_cons pe_str pa_nil)))) pss_nil)
      (pss_one (ps_ret (pe_join pe_str (pe_revL (pv 2)))))))))), ?_⟩
    refine ⟨_, rfl, n, rfl, Nat.zero_le _, fun l hl => ?_⟩
    have ha : (if n < 0 then -n else n) = ((n.natAbs : Nat) : Int) := by
      split <;> omega
    rw [ha]
    have hNz : n.natAbs < 10 ^ 2400 := hz
    generalize hNn : n.natAbs = N at hNz ⊢
    have s0 := same_upd (o := .lst []) hl
    refine while_by (fun σ H' => Same H H' ∧ ∃ (m : Nat) (bs : List Str) (v : Option V), σ = [some (.int n), some (.int (m : Int)), some (.ref l), v] ∧ H' l = some (.lst (bs.map V.str)) ∧ bs.length ≤ 4 ∧ m * 10 ^ (600 * bs.length) ≤ N ∧ (bs ≠ [] → 1 ≤ m) ∧
        numL N = numL m ++ flatS bs ∧ ∀ z ∈ bs, z.length = 600) (fun σ _ => match σ with
          | [_, some (.int m), _, _] => m.toNat
          | _ => 0) ⟨s0, N, [], none, rfl, upd_same, by decide, by simp, fun h => absurd rfl h, by simp [flatS], fun z h => (List.not_mem_nil h).elim⟩ ?_ ?_
    · rintro σ H' ⟨hs, m, bs, v, rfl, hb, hlen, hm, hm1, hnum, hlens⟩
      refine ⟨_, rfl, _, _, rfl, rfl, _, rfl, ?_⟩
      refine ite2 (fun h1 => ?_) (fun h1 => ?_)
      · have h1 : Bk ≤ (m : Int) := of_decide_eq_true h1
        have hBk : (10 ^ 600 : Nat) ≤ m := Int.ofNat_le.mp h1
        have hB0 : 0 < (10 ^ 600 : Nat) := Nat.pow_pos (by decide)
        have d1 : (m : Int) / Bk = ((m / 10 ^ 600 : Nat) : Int) := rfl
        have d2 : (m : Int) % Bk = ((m % 10 ^ 600 : Nat) : Int) := rfl
        have hm2 : 1 ≤ m / 10 ^ 600 := (Nat.one_le_div_iff hB0).mpr hBk
        have hmod : m % 10 ^ 600 < 10 ^ 600 := Nat.mod_lt _ hB0
        have hnum2 : numL m = numL (m / 10 ^ 600) ++ lastL 600 m := numL_cut 600 m hBk
        have hpw : m / 10 ^ 600 * 10 ^ (600 * (bs.length + 1)) ≤ N := by
          refine Nat.le_trans ?_ hm
          rw [Nat.mul_succ, Nat.add_comm, Nat.pow_add, ← Nat.mul_assoc]
          exact Nat.mul_le_mul_right _ (Nat.div_mul_le_self m (10 ^ 600))
        have hlen2 : bs.length + 1 ≤ 4 := by
          refine Nat.le_of_not_lt fun hc => ?_
          have h5 : (10 : Nat) ^ 2400 ≤ 10 ^ (600 * (bs.length + 1)) := Nat.pow_le_pow_right (by decide) (by omega)
          have h6 : 10 ^ (600 * (bs.length + 1)) ≤ N := Nat.le_trans (Nat.le_mul_of_pos_left _ hm2) hpw
          exact absurd hNz (Nat.not_lt.mpr (Nat.le_trans h5 h6))
        have hdec : m / 10 ^ 600 < m := Nat.div_lt_self (by omega) (Nat.one_lt_pow (by decide) (by decide))
        have hfill : (Txt.zfill (tx ((m % 10 ^ 600 : Nat) : Int)) ((600 : Nat) : Int)).cps.toList = lastL 600 m := by
          rw [fill_last (by decide) hmod, lastL_mod]
        have hbig : ((m % 10 ^ 600 : Nat) : Int).natAbs < 10 ^ 4300 := Nat.lt_trans hmod (Nat.pow_lt_pow_right (by decide) (by decide))
        have hzl : (Txt.zfill (tx ((m % 10 ^ 600 : Nat) : Int)) ((600 : Nat) : Int)).length = 600 := by
          rw [len_tl]
          show (Txt.zfill (tx ((m % 10 ^ 600 : Nat) : Int)) ((600 : Nat) : Int)).cps.toList.length = 600
          rw [hfill, lastL_len]
        refine ⟨_, rfl, _, _, rfl, ⟨?_, ?_⟩, fun p hp => ?_⟩
        · exact Int.ofNat_lt.mpr hB0
        · unfold Builtin.divisionGoesByPylong
          have hl : ¬ ((if Bk == 0 then 0 else Bk.natAbs.log2 / 30 + 1) > 300) := by decide +kernel
          simp only [decide_eq_false hl, Bool.false_and]
        rw [d1, d2]
        generalize m / 10 ^ 600 = m2 at hm2 hnum2 hpw hdec ⊢
        generalize m % 10 ^ 600 = r at hmod hfill hbig hzl ⊢
        refine ⟨p, _, rfl, SqT.of upd_same, rfl, _, _, rfl, _, _, rfl, rfl, ?_⟩
        have sp := same_upd (o := .tup [.int (m2 : Int), .int (r : Int)]) hp
        have hb2 := sp _ _ hb
        have hs2 := hs.trans sp
        generalize upd H' p (.tup [.int (m2 : Int), .int (r : Int)]) = H2 at hb2 hs2 ⊢
        refine ⟨_, rfl, .inl ⟨rfl, _, SqL.of hb2⟩, _, rfl, _, rfl, hbig, ⟨_, rfl⟩, _, _, rfl, rfl, (by decide +kernel), l, _, _, rfl, rfl, hb2, (by rw [List.length_map]; exact Nat.lt_of_le_of_lt hlen (by decide)), ?_⟩
        generalize Txt.zfill (tx (r : Int)) ((600 : Nat) : Int) = z at hfill hzl
        refine ⟨⟨fun b o e => ?_, m2, bs ++ [z], _, rfl, ?_, by rw [List.length_append]; exact hlen2, by rw [List.length_append]; exact hpw, fun _ => hm2, ?_, fun y hy => ?_⟩, ?_⟩
        · rw [upd_ne (ne_of_none e hl)]
          exact hs2 _ _ e
        · rw [List.map_append]
          exact upd_same
        · rw [hnum, hnum2, List.append_assoc]
          unfold flatS
          rw [List.reverse_append, List.map_append, List.flatten_append]
          simp [hfill]
        · rcases List.mem_append.mp hy with h | h
          · exact hlens y h
          · rw [List.mem_singleton] at h
            rw [h]
            exact hzl
        · show ((m2 : Nat) : Int).toNat < ((m : Nat) : Int).toNat
          omega
      · have h1 : ¬ Bk ≤ (m : Int) := of_decide_eq_false (Bool.eq_false_iff.mpr h1)
        have hmB : m < (10 ^ 600 : Nat) := Nat.lt_of_not_le fun hc => h1 (Int.ofNat_le.mpr hc)
        have hbig : ((m : Nat) : Int).natAbs < 10 ^ 4300 := Nat.lt_trans hmB (Nat.pow_lt_pow_right (by decide) (by decide))
        refine ⟨_, rfl, .inl ⟨rfl, _, SqL.of hb⟩, _, rfl, _, rfl, hbig, l, _, _, rfl, rfl, hb, (by rw [List.length_map]; exact Nat.lt_of_le_of_lt hlen (by decide)), ?_⟩
        refine ⟨_, rfl, _, _, rfl, rfl, _, rfl, ?_⟩
        have htm : (tx (m : Int)).length ≤ 601 := by
          rw [len_tl]
          show (tx (m : Int)).cps.toList.length ≤ 601
          rw [tl_tx]
          exact numL_len (by decide) (Nat.lt_trans hmB (Nat.pow_lt_pow_right (by decide) (by decide)))
        have hflat : (Txt.join Str.empty (bs ++ [tx (m : Int)]).reverse) = tx (N : Int) := by
          refine ext_tl ?_
          show (Txt.join Str.empty (bs ++ [tx (m : Int)]).reverse).cps.toList = (tx (N : Int)).cps.toList
          rw [join_flat, tl_tx, hnum, List.reverse_append, List.map_append, List.flatten_append]
          unfold flatS
          simp [tl_tx]
        have hsum : ∀ ps : List Str, (∀ y ∈ ps, y.length ≤ 601) → (ps.map Str.length).sum ≤ 601 * ps.length := fun ps => by
          induction ps with
          | nil => intro _; exact Nat.le_refl _
          | cons y r ih =>
            intro h
            rw [List.map_cons, List.sum_cons, List.length_cons]
            have := ih (fun z hz => h z (List.mem_cons_of_mem _ hz))
            have := h y List.mem_cons_self
            omega
        have hall : ∀ y ∈ bs ++ [tx (m : Int)], y.length ≤ 601 := fun y hy => by
          rcases List.mem_append.mp hy with h | h
          · exact Nat.le_trans (Nat.le_of_eq (hlens y h)) (by decide)
          · rw [List.mem_singleton] at h
            rw [h]
            exact htm
        refine ite2 (fun hneg => ?_) (fun hpos => ?_)
        · have hneg : n < 0 := of_decide_eq_true hneg
          refine ⟨_, rfl, .inl ⟨rfl, _, SqL.of upd_same⟩, l, _, _, rfl, rfl, upd_same, (by rw [List.length_append, List.length_map]; exact Nat.lt_of_le_of_lt (Nat.add_le_add_right hlen 1) (by decide)), ?_⟩
          rw [upd_upd]
          refine ⟨⟨_, rfl⟩, _, rfl, l, _, rfl, SqL.of upd_same, fun p hp => ?_⟩
          refine ⟨_, p, (bs ++ [tx (m : Int)] ++ [Str.ofString "-"]).reverse, rfl, rfl, .inl (SqL.of ?_), ?_, ?_⟩
          · rw [upd_same, List.map_reverse, List.map_append, List.map_append]
            rfl
          · have h1 := hsum (bs ++ [tx (m : Int)] ++ [Str.ofString "-"]).reverse (fun y hy => by
              rcases List.mem_append.mp (List.mem_reverse.mp hy) with h | h
              · exact hall y h
              · rw [List.mem_singleton] at h
                rw [h]
                decide +kernel)
            have h2 : (bs ++ [tx (m : Int)] ++ [Str.ofString "-"]).reverse.length ≤ 6 := by
              rw [List.length_reverse, List.length_append, List.length_append]
              show bs.length + 1 + 1 ≤ 6
              omega
            have h3 : (Str.ofString "").length = 0 := rfl
            rw [h3, Nat.mul_zero, Nat.add_zero]
            refine Nat.le_trans h1 (Nat.le_trans (Nat.mul_le_mul_left 601 h2) (by decide))
          · have e1 : Txt.join (Str.ofString "") (bs ++ [tx (m : Int)] ++ [Str.ofString "-"]).reverse = tx n := by
              have e2 : (bs ++ [tx (m : Int)] ++ [Str.ofString "-"]).reverse = Str.ofString "-" :: (bs ++ [tx (m : Int)]).reverse := by
                rw [List.reverse_append]
                rfl
              have e4 : n = -((N : Nat) : Int) := by omega
              have e3 : Str.ofString "-" ++ tx (N : Int) = tx n := by
                have := tx_neg hneg
                rw [e4, Int.neg_neg] at this
                rw [e4]
                exact this
              rw [e2, ← e3]
              refine ext_tl ?_
              show (Txt.join Str.empty (Str.ofString "-" :: (bs ++ [tx (m : Int)]).reverse)).cps.toList = _
              rw [join_flat, List.map_cons, List.flatten_cons, ← join_flat, hflat]
              exact (tl_append _ _).symm
            rw [e1]
            refine k _ fun b o e => ?_
            rw [upd_ne (ne_of_none e (by
              cases hq : H p with
              | none => rfl
              | some o' =>
                by_cases hpl : p = l
                · rw [hpl, hl] at hq
                  exact absurd hq nofun
                · have := hs p o' hq
                  rw [upd_ne hpl] at hp
                  rw [this] at hp
                  exact absurd hp nofun)), upd_ne (ne_of_none e hl)]
            exact hs _ _ e
        · have hpos : ¬ n < 0 := of_decide_eq_false (Bool.eq_false_iff.mpr hpos)
          refine ⟨⟨_, rfl⟩, _, rfl, l, _, rfl, SqL.of upd_same, fun p hp => ?_⟩
          refine ⟨_, p, (bs ++ [tx (m : Int)]).reverse, rfl, rfl, .inl (SqL.of ?_), ?_, ?_⟩
          · rw [upd_same, List.map_reverse, List.map_append]
            rfl
          · have h1 := hsum (bs ++ [tx (m : Int)]).reverse (fun y hy => hall y (List.mem_reverse.mp hy))
            have h2 : (bs ++ [tx (m : Int)]).reverse.length ≤ 6 := by
              rw [List.length_reverse, List.length_append]
              show bs.length + 1 ≤ 6
              omega
            have h3 : (Str.ofString "").length = 0 := rfl
            show (List.map Str.length (bs ++ [tx (m : Int)]).reverse).sum + _ * (Str.ofString "").length ≤ _
            rw [h3, Nat.mul_zero, Nat.add_zero]
            refine Nat.le_trans h1 (Nat.le_trans (Nat.mul_le_mul_left 601 h2) (by decide))
          · have e1 : Txt.join (Str.ofString "") (bs ++ [tx (m : Int)]).reverse = tx n := by
              have e4 : n = ((N : Nat) : Int) := by omega
              rw [e4]
              exact hflat
            rw [e1]
            refine k _ fun b o e => ?_
            rw [upd_ne (ne_of_none e (by
              cases hq : H p with
              | none => rfl
              | some o' =>
                by_cases hpl : p = l
                · rw [hpl, hl] at hq
                  exact absurd hq nofun
                · have := hs p o' hq
                  rw [upd_ne hpl] at hp
                  rw [this] at hp
                  exact absurd hp nofun)), upd_ne (ne_of_none e hl)]
            exact hs _ _ e
    · intro σ H' Q Q' hQ hc
      obtain ⟨v, hv, i, j, e1, e2, k2, e3, q⟩ := hc
      exact ⟨v, hv, i, j, e1, e2, k2, e3, hQ _ _ q⟩
end
end RT
set_option maxRecDepth 100000
set_option maxHeartbeats 2000000
namespace MX
open PySem PySem.Spec PyProof.Rows L2
open TL NumText
theorem zfill_gen {z : Str} {k : Nat} (hd : AllDigits z.cps.toList) (h : z.length < k) : (Txt.zfill z (k : Int)).cps.toList = List.replicate (k - z.length) 48 ++ z.cps.toList := by
  unfold Txt.zfill
  rw [if_neg (by omega), Int.toNat_natCast]
  unfold zfilled
  have fin : (Builtin.Str.padded z (k - z.length) 0 48).cps.toList = List.replicate (k - z.length) 48 ++ z.cps.toList := by
    rw [padded_list]
    simp
  have h0 : ∀ c, z.cps[0]? = some c → 48 ≤ c := fun c hc => by
    have : c ∈ z.cps.toList := by
      rw [← Array.getElem?_toList] at hc
      exact List.mem_of_getElem? hc
    exact (hd c this).1
  split
  · rename_i e
    have := h0 _ e
    omega
  · rename_i e
    have := h0 _ e
    omega
  · exact fin
theorem zfill_gen_len {z : Str} {k : Nat} (hd : AllDigits z.cps.toList) (h : z.length < k) : (Txt.zfill z (k : Int)).length = k := by
  rw [len_tl]
  show (Txt.zfill z (k : Int)).cps.toList.length = k
  rw [zfill_gen hd h, List.length_append, List.length_replicate, ← show z.length = z.cps.toList.length from len_tl z]
  omega
theorem zfill_gen_digits {z : Str} {k : Nat} (hd : AllDigits z.cps.toList) (h : z.length < k) : AllDigits (Txt.zfill z (k : Int)).cps.toList := by
  rw [zfill_gen hd h]
  intro c hc
  rcases List.mem_append.mp hc with hc | hc
  · rw [List.eq_of_mem_replicate hc]
    omega
  · exact hd c hc
theorem zfill_gen_val {z : Str} {k : Nat} (hd : AllDigits z.cps.toList) (h : z.length < k) : digitsVal (Txt.zfill z (k : Int)).cps.toList = digitsVal z.cps.toList := by
  rw [zfill_gen hd h, val_zeros]
theorem fold_val : ∀ (l : List Nat) (a : Nat), l.foldl (fun acc c => acc * 10 + (c - 48)) a = a * 10 ^ l.length + digitsVal l
  | [], a => by
    show a = a * 10 ^ 0 + 0
    omega
  | c :: r, a => by
    have e1 := fold_val r (a * 10 + (c - 48))
    have e2 := fold_val r (0 * 10 + (c - 48))
    unfold digitsVal at *
    rw [List.foldl_cons, List.foldl_cons, e1, e2, List.length_cons, Nat.pow_succ, Nat.zero_mul, Nat.zero_add, Nat.add_mul, Nat.mul_assoc, Nat.mul_comm 10, Nat.add_assoc]
theorem val_append (a b : List Nat) : digitsVal (a ++ b) = digitsVal a * 10 ^ b.length + digitsVal b := by
  have e := fold_val b (digitsVal a)
  unfold digitsVal at *
  rw [List.foldl_append, e]
theorem val_lt : ∀ (l : List Nat), AllDigits l → digitsVal l < 10 ^ l.length := fun l => by
  induction l with
  | nil => intro _; decide
  | cons c r ih =>
    intro h
    have i := ih h.tail
    have hc := h.head
    have e : digitsVal (c :: r) = digitsVal ([c] ++ r) := rfl
    rw [e, val_append, List.length_cons, Nat.pow_succ]
    have e2 : digitsVal [c] = c - 48 := by
      show 0 * 10 + (c - 48) = _
      omega
    rw [e2]
    have h9 : c - 48 ≤ 9 := by omega
    have := Nat.mul_le_mul_right (10 ^ r.length) h9
    omega
theorem take_digits {l : List Nat} (h : AllDigits l) (k : Nat) : AllDigits (l.take k) := fun c hc => h c (List.mem_of_mem_take hc)
theorem drop_digits {l : List Nat} (h : AllDigits l) (k : Nat) : AllDigits (l.drop k) := fun c hc => h c (List.mem_of_mem_drop hc)
/-- a block of a text -/
theorem cut_block {z : Str} {i c : Nat} (hl : z.length = 600 * c) (hi : i < c) : (cutS z (some ((600 * i : Nat) : Int)) (some ((600 * i + 600 : Nat) : Int))).cps.toList = (z.cps.toList.drop (600 * i)).take 600 := by
  unfold cutS
  rw [HT.sIx_nat, HT.sIx_nat, hl, Nat.min_eq_left (by omega), Nat.min_eq_left (by omega)]
  show (z.cps.toList.drop (600 * i)).take (600 * i + 600 - 600 * i) = _
  rw [Nat.add_sub_cancel_left]
theorem val_block {l : List Nat} {i c : Nat} (hl : l.length = 600 * c) (hi : i < c) : digitsVal (l.take (600 * (i + 1))) = digitsVal (l.take (600 * i)) * 10 ^ 600 + digitsVal ((l.drop (600 * i)).take 600) := by
  have e : l.take (600 * (i + 1)) = l.take (600 * i) ++ (l.drop (600 * i)).take 600 := by
    rw [Nat.mul_succ, List.take_add]
  have el : ((l.drop (600 * i)).take 600).length = 600 := by
    rw [List.length_take, List.length_drop, hl]
    omega
  rw [e, val_append, el]
end MX
set_option maxRecDepth 100000
set_option maxHeartbeats 1000000
namespace RT
open PySem PySem.Spec PyProof.Rows L2 GL MX ClX TL NumText
abbrev sParse : Stmt := inClass (top 9) 1
abbrev sAre : Stmt := top 10
abbrev sNum : Stmt := top 11
/-- one or more digits -/
def okD (z : Str) : Bool := !z.cps.toList.isEmpty && z.cps.toList.all fun c => decide (48 ≤ c) && decide (c ≤ 57)
def Asc (z : Str) : Prop := ∀ c ∈ z.cps.toList, c < 128
theorem okD_iff {z : Str} : okD z = true ↔ z.cps.toList ≠ [] ∧ AllDigits z.cps.toList := by
  unfold okD
  rw [Bool.and_eq_true, List.all_eq_true]
  constructor
  · rintro ⟨h1, h2⟩
    refine ⟨fun e => by rw [e] at h1; exact absurd h1 (by decide), fun c hc => ?_⟩
    have := h2 c hc
    simpa using this
  · rintro ⟨h1, h2⟩
    refine ⟨?_, fun c hc => ?_⟩
    · cases h : z.cps.toList with
      | nil => exact absurd h h1
      | cons c r => rfl
    · have := h2 c hc
      simpa using this
theorem uni_no {c : Nat} (h : c < 128) : Unicode.isDigit c = (decide (48 ≤ c) && decide (c ≤ 57)) := by
  have z : ∀ k, k < 128 → Unicode.isDigit k = (decide (48 ≤ k) && decide (k ≤ 57)) := by decide +kernel
  exact z c h
theorem all_no : ∀ l : List Nat, (∀ c ∈ l, c < 128) → l.all Unicode.isDigit = l.all fun c => decide (48 ≤ c) && decide (c ≤ 57)
  | [], _ => rfl
  | c :: r, h => by
    rw [List.all_cons, List.all_cons, uni_no (h c List.mem_cons_self), all_no r fun d hd => h d (List.mem_cons_of_mem _ hd)]
theorem isdigit_gen {z : Str} (h : Asc z) : Txt.isdigit z = okD z := by
  unfold Txt.isdigit okD
  have e1 : decide (z.length > 0) = !z.cps.toList.isEmpty := by
    rw [len_tl]
    show decide (z.cps.toList.length > 0) = _
    cases z.cps.toList <;> rfl
  have e2 : z.cps.all Unicode.isDigit = z.cps.toList.all fun c => decide (48 ≤ c) && decide (c ≤ 57) := by
    rw [← Array.all_toList]
    exact all_no _ h
  rw [e1, e2]
theorem isascii_gen {z : Str} (h : Asc z) : Txt.isascii z = true := by
  unfold Txt.isascii
  rw [← Array.all_toList, List.all_eq_true]
  exact fun c hc => decide_eq_true (h c hc)
def spAreW : Sp := fun vs H Q _ => ∃ z : Str, vs = [.str z] ∧ Asc z ∧ Q (.bl (okD z)) H
def spNumW : Sp := fun vs H Q _ => ∃ z : Str, vs = [.str z] ∧ okD z = true ∧ z.length ≤ 2200 ∧ Q (.int (digitsVal z.cps.toList)) H
section
variable {P : Program} {w : World} {K : PySem.W.Frag} {mg : Str → Option Value} {base : Heap} {C CZ CP f : Addr} {fd : FuncData}
theorem scAre : FnScope ["text"] ["text"] (defScope sAre) := ⟨rfl, rfl, rfl, by decide +kernel, rfl, by decide +kernel, by decide +kernel⟩
theorem ok_areW (F : FnP K "_are_digits" "_are_digits" sAre f fd) : FnOk P w K mg base CX0 1 f fd ["text"] spAreW := by
  refine F.ok scAre (fun vs H Q E h => ?_) (fun cdv A outer s H vs Q E hr h => ?_)
  · obtain ⟨n, rfl, _⟩ := h
    rfl
  · obtain ⟨z, rfl, hz, k⟩ := h
    refine ⟨_, PSs.nox (pss_one (ps_ret (pe_and (pe_m0 PySem.F.slot_str_isascii PySem.F.type_str_isascii mt_isascii (pv 0)) (pe_one (pe_m0 PySem.F.slot_str_isdigit PySem.F.type_str_isdigit mt_isdigit (pv 0)))))), ?_⟩
    refine ⟨_, rfl, ⟨_, rfl⟩, _, rfl, rfl, trivial, ?_⟩
    rw [isascii_gen hz]
    refine ⟨_, rfl, iteT ?_⟩
    refine ⟨_, rfl, ⟨_, rfl⟩, _, rfl, rfl, trivial, ?_⟩
    rw [isdigit_gen hz]
    exact k
theorem scNum : FnScope ["digits", "padded", "number", "at"] ["digits"] (defScope sNum) := ⟨rfl, rfl, rfl, by decide +kernel, rfl, by decide +kernel, by decide +kernel⟩
theorem ok_numW (F : FnP K "_number" "_number" sNum f fd) (T : Txt K mg C) (hbd : ∃ t, mg "_BLOCK_DIGITS" = some (.int 600 t)) (hint : mg "int" = none) : FnOk P w K mg base CX0 1 f fd ["digits"] spNumW := by
  obtain ⟨tb, hblk⟩ := T.blk
  obtain ⟨td, hbd⟩ := hbd
  refine F.ok scNum (fun vs H Q E h => ?_) (fun cdv A outer s H vs Q E hr h => ?_)
  · obtain ⟨n, rfl, _⟩ := h
    rfl
  · obtain ⟨y, rfl, hy, hlen, k⟩ := h
    have nd := scNum.nd
    obtain ⟨hne, hd⟩ := okD_iff.mp hy
    refine ⟨_, PSs.nox (pss_cons (ps_set (i := 1) nd rfl (Or.inl rfl) (pe_m1 PySem.F.slot_str_zfill PySem.F.type_str_zfill mt_zfill (pv 0) (pe_op op_sub (pe_op op_add (pe_callB call_len_str (by rfl) T.len PySem.boot_len (pa_cons (pv 0) pa_nil)) (pe_glob (v := V.int 600) rfl hbd ⟨_, rfl⟩)) (pe_op op_mod (pe_callB call_len_str (by rfl) T.len PySem.boot_len (pa_cons (pv 0) pa_nil)) (pe_glob (v := V.int 600) rfl hbd ⟨_, rfl⟩)))))
      (pss_cons (ps_set (i := 2) nd rfl (Or.inl rfl) pe_int)
      (pss_cons (ps_for PassesOwn.never rfl (pi_range3 (by rfl) T.range (pa_cons pe_int (pa_cons (pe_callB call_len_str (by rfl) T.len PySem.boot_len (pa_cons (pv 1) pa_nil)) (pa_cons (pe_glob (v := V.int 600) rfl hbd ⟨_, rfl⟩) pa_nil)))) (pg_name (i := 3) nd rfl (Or.inl rfl))
      (pss_one (ps_set (i := 2) nd rfl (Or.inl rfl) (pe_op op_add (pe_op op_mulW (pv 2) (pe_glob (v := V.int Bk) rfl hblk ⟨_, rfl⟩)) (pe_callTy call_int_str (by rfl) hint (by decide +kernel) (pa_cons (pe_slice sl_str (pv 1) (po_some (pv 3)) (po_some (pe_op op_add (pv 3) (pe_glob (v := V.int 600) rfl hbd ⟨_, rfl⟩)))) pa_nil))))))
      (pss_one (ps_ret (pv 2)))))), ?_⟩
    have hs : y.length ≤ sizeLine := by
      rw [sizeLine_eq]
      omega
    obtain ⟨c, hc, hc3⟩ : ∃ c : Nat, y.length + 600 - y.length % 600 = 600 * c ∧ c ≤ 4 := ⟨y.length / 600 + 1, by omega, by omega⟩
    refine ⟨_, rfl, ⟨_, rfl⟩, _, rfl, _, rfl, hs, _, _, rfl, rfl, _, rfl, _, rfl, hs, _, _, rfl, rfl, (by show (0 : Int) < 600; decide), _, _, rfl, rfl, _, _, rfl, rfl, ?_⟩
    have hlt : y.length < 600 * c := by omega
    have ew : (y.length : Int) + 600 - (y.length : Int) % 600 = ((600 * c : Nat) : Int) := by omega
    rw [ew]
    have ez : (Txt.zfill y ((600 * c : Nat) : Int)).length = 600 * c := zfill_gen_len hd hlt
    have ed : AllDigits (Txt.zfill y ((600 * c : Nat) : Int)).cps.toList := zfill_gen_digits hd hlt
    have ev : digitsVal (Txt.zfill y ((600 * c : Nat) : Int)).cps.toList = digitsVal y.cps.toList := zfill_gen_val hd hlt
    have hpad : PadOk ((600 * c : Nat) : Int) = true := by
      have : c = 0 ∨ c = 1 ∨ c = 2 ∨ c = 3 ∨ c = 4 := by omega
      rcases this with rfl | rfl | rfl | rfl | rfl <;> decide +kernel
    refine ⟨hpad, ?_⟩
    generalize Txt.zfill y ((600 * c : Nat) : Int) = z at ez ed ev ⊢
    have hs2 : z.length ≤ sizeLine := by
      rw [ez, sizeLine_eq]
      omega
    have el : z.cps.toList.length = 600 * c := by rw [← ez, len_tl]
    refine ⟨_, rfl, _, rfl, hs2, _, _, _, c, rfl, ?_, ?_⟩
    · rw [ez]
      have : c = 1 ∨ c = 2 ∨ c = 3 ∨ c = 4 := by omega
      rcases this with rfl | rfl | rfl | rfl <;> exact ⟨by decide, by decide, by decide +kernel, by decide +kernel⟩
    · refine for_rangeC (lo := 0) (c := 600) (fun i σ H' => H' = H ∧ i ≤ c ∧ ∃ v, σ = [some (.str y), some (.str z), some (.int (digitsVal (z.cps.toList.take (600 * i)) : Nat)), v])
        ⟨rfl, Nat.zero_le _, _, rfl⟩ ?_ ?_
      · rintro i σ H' hi ⟨rfl, _, v, rfl⟩
        have hb1 : Bd 8000 ((digitsVal (z.cps.toList.take (600 * i)) : Nat) : Int) := by
          have h1 := val_lt _ (take_digits ed (600 * i))
          have h2 : (z.cps.toList.take (600 * i)).length ≤ 2400 := by
            rw [List.length_take]
            omega
          have h3 : (10 : Nat) ^ (z.cps.toList.take (600 * i)).length ≤ 10 ^ 2400 := Nat.pow_le_pow_right (by decide) h2
          have h4 : (10 : Nat) ^ 2400 ≤ 2 ^ 8000 := by decide +kernel
          exact Nat.lt_of_lt_of_le h1 (Nat.le_trans h3 h4)
        have hbB : Bd 2000 Bk := by
          unfold Bd Bk
          decide +kernel
        refine ⟨_, rfl, _, _, rfl, rfl, hb1.cmul hbB (by decide) (by decide) (by decide), ?_⟩
        refine ⟨_, rfl, _, rfl, _, rfl, _, rfl, _, _, rfl, rfl, _, rfl, z, rfl, hs2, ?_⟩
        have ei : ((0 : Int) + (i : Int) * 600) = ((600 * i : Nat) : Int) := by omega
        have ei2 : ((600 * i : Nat) : Int) + 600 = ((600 * i + 600 : Nat) : Int) := by omega
        rw [ei, ei2]
        have ecut := cut_block ez hi
        have hbd2 : AllDigits ((z.cps.toList.drop (600 * i)).take 600) := take_digits (drop_digits ed _) _
        have hbl : ((z.cps.toList.drop (600 * i)).take 600).length = 600 := by
          rw [List.length_take, List.length_drop, el]
          omega
        have hzl : (cutS z (some ((600 * i : Nat) : Int)) (some ((600 * i + 600 : Nat) : Int))).length = 600 := by
          rw [len_tl]
          show (cutS z (some ((600 * i : Nat) : Int)) (some ((600 * i + 600 : Nat) : Int))).cps.toList.length = 600
          rw [ecut, hbl]
        have hit : intText? (cutS z (some ((600 * i : Nat) : Int)) (some ((600 * i + 600 : Nat) : Int))) = some ((digitsVal ((z.cps.toList.drop (600 * i)).take 600) : Nat) : Int) := by
          rw [intText_digits (by rw [ecut]; exact hbd2) (by rw [ecut]; intro e; rw [e] at hbl; exact absurd hbl (by decide)) (by rw [hzl]; decide), ecut]
        refine ⟨_, _, rfl, hit, by rw [hzl]; decide, _, _, rfl, rfl, rfl, by omega, some (.int ((600 * i : Nat) : Int)), ?_⟩
        have e3 := val_block el hi
        have e4 : ((digitsVal (z.cps.toList.take (600 * i)) : Nat) : Int) * Bk + ((digitsVal ((z.cps.toList.drop (600 * i)).take 600) : Nat) : Int) = ((digitsVal (z.cps.toList.take (600 * (i + 1))) : Nat) : Int) := by
          rw [e3]
          show _ * ((10 ^ 600 : Nat) : Int) + _ = _
          rw [Int.natCast_add, Int.natCast_mul]
        rw [← e4]
        show [some (V.str y), some (V.str z), some (V.int (((digitsVal (z.cps.toList.take (600 * i)) : Nat) : Int) * Bk + ((digitsVal ((z.cps.toList.drop (600 * i)).take 600) : Nat) : Int))), some (V.int ((600 * i : Nat) : Int))] = _
        rfl
      · rintro σ H' ⟨rfl, _, v, rfl⟩
        refine ⟨_, rfl, ?_⟩
        rw [List.take_of_length_le (Nat.le_of_eq el), ev]
        exact k
theorem dg_len {n : Int} (h : Dg n) : (tx n).length ≤ 2401 := by
  rcases Int.eq_nat_or_neg n with ⟨m, rfl | rfl⟩
  · rw [len_tl]
    show (tx (m : Int)).cps.toList.length ≤ 2401
    rw [tl_tx]
    exact Nat.le_trans (numL_len (k := 2400) (by decide) h) (by decide)
  · by_cases h0 : m = 0
    · subst h0
      decide +kernel
    · have hm : m < 10 ^ 2400 := by
        have h2 : (-(m : Int)).natAbs < 10 ^ 2400 := h
        rwa [Int.natAbs_neg] at h2
      rw [len_tl]
      show (tx (-(m : Int))).cps.toList.length ≤ 2401
      rw [tl_neg (by omega), List.length_cons]
      exact Nat.succ_le_succ (numL_len (k := 2400) (by decide) hm)
def spStrW (C : Addr) : Sp := fun vs H Q _ => ∃ (x : Addr) (t b : Int), vs = [.ref x] ∧ Rat C H x t b ∧ Dg t ∧ Dg b ∧ ∀ H', Same H H' → Q (.str (rt t b)) H'
theorem ok_strW {fD : Addr} {fdD : FuncData} (F : FnP K "__str__" "Ratio.__str__" sStr f fd) (T : Txt K mg C) (gD : mg "_digits" = some (.ref fD)) (FD : FnP K "_digits" "_digits" sDig fD fdD) (GD : FnOk P w K mg base CX0 1 fD fdD ["number"] spDigW) : FnOk P w K mg base CX0 2 f fd ["self"] (spStrW C) := by
  have bD : L2.Binds K fdD ["number"] [] := FD.bindsN fun _ _ _ _ _ _ us hl => match us, hl with | [_], _ => rfl
  refine F.ok scS (fun vs H Q E h => ?_) (fun cdv A outer s H vs Q E hr h => ?_)
  · obtain ⟨x, t, b, rfl, _⟩ := h
    rfl
  · obtain ⟨x, t, b, rfl, hx, ht, hb, k⟩ := h
    refine ⟨_, PSs.nox <| pss_cons (ps_if (pt_cmpR op_eq (pe_fld (pv 0) rfl) pe_int (nomark _))
        (pss_one (ps_ret (pe_callTy SkE.call_str_str (by rfl) T.str (by decide +kernel) (pa_cons (pe_call GD hr rfl gD FD.kp bD .nil pass0 (pa_cons (pe_fld (pv 0) rfl) pa_nil)) pa_nil)))) pss_nil)
      (pss_one (ps_ret (pe_joined (.cons (pe_fmt (pe_call GD hr rfl gD FD.kp bD .nil pass0 (pa_cons (pe_fld (pv 0) rfl) pa_nil)))
        (.cons pe_str (.cons (pe_fmt (pe_call GD hr rfl gD FD.kp bD .nil pass0 (pa_cons (pe_fld (pv 0) rfl) pa_nil))) .nil)))))), ?_⟩
    obtain ⟨dx, hX⟩ := id hx
    have zt := dg_len ht
    have zb := dg_len hb
    have zs := sizeLine_eq
    refine ⟨_, rfl, x, C, dx, _, _, rfl, hX, T.cl, T.nB, Rf_bot _ _, rfl, _, rfl, ?_⟩
    refine ite2 (fun h1 => ?_) (fun h1 => ?_)
    · have h1 := V.int.inj (of_decide_eq_true h1)
      refine ⟨_, rfl, x, C, dx, _, _, rfl, hX, T.cl, T.nT, Rf_top _ _, t, rfl, ht, fun H' hs => ?_⟩
      refine ⟨_, rfl, ?_⟩
      have e := k H' hs
      unfold rt at e
      rw [if_pos h1] at e
      exact e
    · have h1 : ¬ b = 1 := fun q => h1 (decide_eq_true (by rw [q]))
      refine ⟨_, rfl, x, C, dx, _, _, rfl, hX, T.cl, T.nT, Rf_top _ _, t, rfl, ht, fun H' hs => .inl ⟨_, rfl, by omega, ?_⟩⟩
      have e0 : Str.empty ++ tx t = tx t := Str.empty_append _
      refine ⟨_, rfl, by rw [e0]; omega, ?_⟩
      have l1 : (tx t ++ Str.ofString "/").length = (tx t).length + 1 := PySem.Str.length_append _ _
      refine ⟨_, rfl, by rw [e0]; show (tx t ++ Str.ofString "/").length ≤ _; omega, ?_⟩
      obtain ⟨dx', hX'⟩ := hx.same hs
      refine ⟨_, rfl, x, C, dx', _, _, rfl, hX', T.cl, T.nB, Rf_bot _ _, b, rfl, hb, fun H2 hs2 => .inl ⟨_, rfl, by omega, ?_⟩⟩
      have l2 : (tx t ++ Str.ofString "/" ++ tx b).length = (tx t).length + 1 + (tx b).length := (PySem.Str.length_append _ _).trans (by rw [l1])
      refine ⟨_, rfl, by rw [e0]; show (tx t ++ Str.ofString "/" ++ tx b).length ≤ _; omega, ?_⟩
      rw [e0]
      have e := k H2 (hs.trans hs2)
      unfold rt at e
      rw [if_neg h1] at e
      exact e
end
end RT
set_option maxRecDepth 100000
set_option maxHeartbeats 1000000
namespace RT
open PySem PySem.Spec PyProof.Rows L2 GL MX ClX TL NumText
abbrev sIT : Stmt := inClass (top 4) 0
theorem Rat.cong {C : Addr} {H : Hp} {x : Addr} {t b t' b' : Int} (r : Rat C H x t b) (e : t = t' ∧ b = b') : Rat C H x t' b' := by
  obtain ⟨rfl, rfl⟩ := e
  exact r
def spIT (CI : Addr) : Sp := fun vs H Q _ => ∃ (e : Addr) (i : Int), vs = [.ref e, .int i] ∧ H e = some (exo e CI none) ∧ ∀ dx, H dx = none → dx ≠ e → Q .non (upd (upd H dx (exd dx [("row", .int i)])) e (exo e CI (some dx)))
/-- the text of a ratio in lowest terms -/
def Can (z : Str) (t b : Int) : Prop := 0 < b ∧ Nat.gcd t.natAbs b.natAbs = 1 ∧ z = rt t b
def spParW (C CI : Addr) : Sp := fun vs H Q E => ∃ z : Str, vs = [.ref C, .str z] ∧ Asc z ∧ z.length ≤ 2200 ∧ (∀ t b, Can z t b → ∀ o H', Same H H' → Rat C H' o t b → Q (.ref o) H') ∧
  ((∀ t b, ¬ Can z t b) → ∀ dx H', Same H H' → H' dx = some (.xd [("row", .int 0)]) → E (.ref CI) (some dx) H')
section
variable {P : Program} {w : World} {K : PySem.W.Frag} {mg : Str → Option Value} {base : Heap} {C CI CP f : Addr} {fd : FuncData}
theorem scIT : FnScope ["self", "row"] ["self", "row"] (defScope sIT) := ⟨rfl, rfl, rfl, by decide +kernel, rfl, by decide +kernel, by decide +kernel⟩
theorem ok_it (F : FnP K "__init__" "InvalidText.__init__" sIT f fd) (X : OexC K CI) (hno : PySem.W.findIn K (.ref CI) "row" = some none) : FnOk P w K mg base CX0 1 f fd ["self", "row"] (spIT CI) := by
  refine F.ok scIT (fun vs H Q E h => ?_) (fun cdv A outer s H vs Q E hr h => ?_)
  · obtain ⟨e, i, rfl, _⟩ := h
    rfl
  · obtain ⟨e, i, rfl, he, k⟩ := h
    refine ⟨_, PSs.nox <| pss_one (ps_ost (pv 0) (pv 1)), ?_⟩
    exact ⟨_, rfl, _, rfl, e, CI, rfl, X, hno, .inl ⟨he, fun dx hdx hne => k dx hdx hne⟩⟩
theorem scPar : FnScope ["cls", "text", "top_text", "slash", "bottom_text", "top_digits", "top", "bottom", "ratio"] ["cls", "text"] (defScope sParse) := ⟨rfl, rfl, rfl, by decide +kernel, rfl, by decide +kernel, by decide +kernel⟩
theorem ok_parW {fI fA fNu fS fX : Addr} {fdI fdA fdNu fdS fdX : FuncData} (F : FnP K "parse" "Ratio.parse" sParse f fd) (T : Txt K mg C) (M : Mk K C fI) (FI : FnP K "__init__" "Ratio.__init__" sInit fI fdI)
    (gA : mg "_are_digits" = some (.ref fA)) (FA : FnP K "_are_digits" "_are_digits" sAre fA fdA) (gNu : mg "_number" = some (.ref fNu)) (FNu : FnP K "_number" "_number" sNum fNu fdNu) (GNu1 : FnOk P w K mg base CX0 1 fNu fdNu ["digits"] spNumW)
    (mSt : Meth K C "__str__" fS) (FSt : FnP K "__str__" "Ratio.__str__" sStr fS fdS) (GSt : FnOk P w K mg base CX0 2 fS fdS ["self"] (spStrW C))
    (OX : OexC K CI) (hno : PySem.W.findIn K (.ref CI) "row" = some none) (gIT : mg "InvalidText" = some (.ref CI)) (iC : PySem.W.findIn K (.ref CI) "__init__" = some (some (.ref fX))) (tI : PySem.W.typeIn K (.ref fX) = some (.type "function")) (FX : FnP K "__init__" "InvalidText.__init__" sIT fX fdX) :
    FnOk P w K mg base (L2.CX P w) 5 f fd ["cls", "text"] (spParW C CI) := by
  have GI : FnOk P w K mg base CX0 1 fI fdI ["self", "top", "bottom"] (spInit C) := ok_init FI T
  have bI : L2.Binds K fdI ["self", "top", "bottom"] [] := FI.bindsN fun _ _ _ _ _ _ us hl => match us, hl with | [_, _, _], _ => rfl
  have GA1 : FnOk P w K mg base CX0 1 fA fdA ["text"] spAreW := ok_areW FA
  have GA := GA1.mono (show 1 ≤ 2 by decide)
  have bA : L2.Binds K fdA ["text"] [] := FA.bindsN fun _ _ _ _ _ _ us hl => match us, hl with | [_], _ => rfl
  have GNu := GNu1.mono (show 1 ≤ 2 by decide)
  have bNu : L2.Binds K fdNu ["digits"] [] := FNu.bindsN fun _ _ _ _ _ _ us hl => match us, hl with | [_], _ => rfl
  have bSt : L2.Binds K fdS ["self"] [] := FSt.bindsN fun _ _ _ _ _ _ us hl => match us, hl with | [_], _ => rfl
  have GX : FnOk P w K mg base CX0 1 fX fdX ["self", "row"] (spIT CI) := ok_it FX OX hno
  have bX : L2.Binds K fdX ["self", "row"] [] := FX.bindsN fun _ _ _ _ _ _ us hl => match us, hl with | [_, _], _ => rfl
  refine F.ok scPar (fun vs H Q E h => ?_) (fun cdv A outer s H vs Q E hr h => ?_)
  · obtain ⟨z, rfl, _⟩ := h
    rfl
  · obtain ⟨z, rfl, hasc, hlen, kq, ke⟩ := h
    have nd := scPar.nd
    have r2 : Room 2 _ := hr.mono (by decide)
    refine ⟨_, (pss_cons (ps_asg (pe_partition (pv 1) pe_str) (pg_tup (by rfl) (pgs_cons (pg_name (i := 2) nd rfl (Or.inl rfl)) (pgs_cons (pg_name (i := 3) nd rfl (Or.inl rfl)) (pgs_cons (pg_name (i := 4) nd rfl (Or.inl rfl)) pgs_nil)))))
      (C8.pss_cut (ps_if (pt_cmpR op_eq (pv 3) pe_str (nomark _)) (pss_one (ps_set (i := 4) nd rfl (Or.inl rfl) pe_str)) pss_nil)
      (pss_cons (ps_set (i := 5) nd rfl (Or.inl rfl) (pe_m1 PySem.F.slot_str_removeprefix PySem.F.type_str_removeprefix mt_removeprefix (pv 2) pe_str))
      (pss_cons (ps_if (PW.pt (pw_or (pt_not (pt_val (pe_call GA (r2) rfl gA FA.kp bA .nil pass0 (pa_cons (pv 5) pa_nil)))) (pw_or1 (pt_not (pt_val (pe_call GA (r2) rfl gA FA.kp bA .nil pass0 (pa_cons (pv 4) pa_nil))))))) (pss_one (ps_raise rfl (takes_of rfl rfl rfl rfl) (pmk_oex OX iC tI GX r2 bX .nil pass0 rfl gIT (pa_cons pe_int pa_nil)))) pss_nil)
      (pss_cons (ps_set (i := 6) nd rfl (Or.inl rfl) (pe_call GNu (r2) rfl gNu FNu.kp bNu .nil pass0 (pa_cons (pv 5) pa_nil)))
      (pss_cons (ps_set (i := 7) nd rfl (Or.inl rfl) (pe_call GNu (r2) rfl gNu FNu.kp bNu .nil pass0 (pa_cons (pv 4) pa_nil)))
      (pss_cons (ps_if (pt_cmpR op_eq (pv 7) pe_int (nomark _)) (pss_one (ps_raise rfl (takes_of rfl rfl rfl rfl) (pmk_oex OX iC tI GX r2 bX .nil pass0 rfl gIT (pa_cons pe_int pa_nil)))) pss_nil)
      (pss_cons (ps_set (i := 8) nd rfl (Or.inl rfl) (pe_makeL (i := 0) M GI r2 rfl (.inl rfl) bI .nil pass0 (pa_cons (pe_ifExp (pt_cmpR op_eq (pv 2) (pv 5) (nomark _)) (pv 6) (pe_un un_neg (pv 6))) (pa_cons (pv 7) pa_nil))))
      (pss_cons (ps_if (pt_cmpR op_ne (pe_callTy (call_strOwn mSt (GSt.raw bSt .nil) hr pass0) (by rfl) T.str (by decide +kernel) (pa_cons (pv 8) pa_nil)) (pv 1) (nomark _)) (pss_one (ps_raise rfl (takes_of rfl rfl rfl rfl) (pmk_oex OX iC tI GX r2 bX .nil pass0 rfl gIT (pa_cons pe_int pa_nil)))) pss_nil)
      (pss_one (ps_ret (pv 8)))))))))))), ?_⟩
    have bigB : ∀ {i : Int}, Dg i → Bd 8000 i := fun {i} h => Nat.lt_of_lt_of_le h (by decide +kernel : (10 : Nat) ^ 2400 ≤ 2 ^ 8000)
    by_cases hcan : ∃ t b, Can z t b
    · obtain ⟨t, d, hpos, hcop, rfl⟩ := hcan
      have k := fun o H' (s : Same H H') (r : Rat C H' o t d) => kq t d ⟨hpos, hcop, rfl⟩ o H' s r
      clear kq ke
      obtain ⟨m, rfl⟩ : ∃ m : Nat, d = (m : Int) := ⟨d.toNat, by omega⟩
      have e0 : nt t (m : Int) = t ∧ nb t (m : Int) = (m : Int) := low_self hpos hcop
      obtain ⟨n, hn⟩ : ∃ n : Nat, t = (n : Int) ∨ (t = -(n : Int) ∧ 0 < n) := by
        rcases Int.eq_nat_or_neg t with ⟨n, e | e⟩
        · exact ⟨n, .inl e⟩
        · by_cases h : n = 0
          · subst h
            exact ⟨0, .inl e⟩
          · exact ⟨n, .inr ⟨e, by omega⟩⟩
      have lr : (rt t (m : Int)).length ≤ sizeLine := by
        rw [sizeLine_eq]
        omega
      have lapp : ∀ a b : Str, (a ++ b).length = a.length + b.length := fun a b => by rw [len_tl, tl_append, List.length_append, ← len_tl, ← len_tl]
      have lm0 : (tx (m : Int)).length ≤ 2200 := by
        unfold rt at hlen
        split at hlen
        · rename_i h1
          rw [h1]
          decide +kernel
        · rw [lapp, lapp] at hlen
          omega
      have lt0 : (tx t).length ≤ 2200 := by
        unfold rt at hlen
        split at hlen
        · exact hlen
        · rw [lapp, lapp] at hlen
          omega
      have ltl : ∀ j : Nat, (tx (j : Int)).length = (numL j).length := fun j => by rw [len_tl]; show (tx (j : Int)).cps.toList.length = _; rw [tl_tx]
      have ln0 : (tx (n : Int)).length ≤ 2200 := by
        rcases hn with rfl | ⟨rfl, h0⟩
        · exact lt0
        · rw [len_tl] at lt0
          have lt1 : (tx (-(n : Int))).cps.toList.length ≤ 2200 := lt0
          rw [tl_neg h0, List.length_cons] at lt1
          rw [ltl]
          omega
      have dgn : ∀ j : Nat, (tx (j : Int)).length ≤ 2200 → Dg (j : Int) := fun j hj => by
        have h1 := val_lt (numL j) (numL_digits j)
        rw [numL_val] at h1
        rw [ltl] at hj
        exact Nat.lt_of_lt_of_le h1 (Nat.pow_le_pow_right (by decide) (by omega))
      have hB : Dg (m : Int) := dgn m lm0
      have hNn : Dg (n : Int) := dgn n ln0
      have DT : Dg t := by
        rcases hn with rfl | ⟨rfl, _⟩
        · exact hNn
        · show (-(n : Int)).natAbs < _
          rw [Int.natAbs_neg]
          exact hNn
      have okn : ∀ j : Nat, okD (tx (j : Int)) = true := fun j => okD_iff.mpr ⟨by rw [tl_tx]; exact numL_ne j, by rw [tl_tx]; exact numL_digits j⟩
      have ascn : ∀ j : Nat, Asc (tx (j : Int)) := fun j c hc => by
        rw [tl_tx] at hc
        have := numL_digits j c hc
        omega
      have valn : ∀ j : Nat, digitsVal (tx (j : Int)).cps.toList = j := fun j => by rw [tl_tx, numL_val]
      obtain ⟨sl, bt, hp, hsl⟩ : ∃ sl bt : Str, Txt.partition (rt t (m : Int)) (Str.ofString "/") = (tx t, sl, bt) ∧ ((sl = Str.ofString "" ∧ (m : Int) = 1) ∨ (¬ sl = Str.ofString "" ∧ bt = tx (m : Int))) := by
        unfold rt
        split
        · rename_i h1
          exact ⟨_, _, part_none, .inl ⟨by decide +kernel, h1⟩⟩
        · exact ⟨_, _, part_slash, .inr ⟨by decide +kernel, rfl⟩⟩
      refine ⟨_, rfl, ⟨_, rfl⟩, _, _, rfl, rfl, by decide +kernel, lr, fun p hpn => ?_⟩
      have sp := fun (o : HO) => same_upd (o := o) hpn
      rw [hp]
      refine ⟨p, _, rfl, SqT.of upd_same, rfl, _, _, rfl, _, _, rfl, _, _, rfl, rfl, ?_⟩
      have k := fun z H' (s : Same (upd H p (.tup [.str (tx t), .str sl, .str bt])) H') => k z H' ((sp _).trans s)
      refine ⟨fun σ' H' => σ' = [some (.ref C), some (.str (rt t (m : Int))), some (.str (tx t)), some (.str sl), some (.str (tx (m : Int))), none, none, none, none] ∧ H' = upd H p (.tup [.str (tx t), .str sl, .str bt]), ?_, ?_⟩
      · refine ⟨_, rfl, rfl, _, rfl, ?_⟩
        rcases hsl with ⟨h1, h2⟩ | ⟨h1, h2⟩
        · rw [decide_eq_true (show V.str sl = V.str (Str.ofString "") by rw [h1])]
          refine iteT ?_
          rw [h2]
          exact ⟨rfl, rfl⟩
        · rw [decide_eq_false (show ¬ V.str sl = V.str (Str.ofString "") from fun e => h1 (V.str.inj e))]
          rw [h2]
          exact iteF ⟨rfl, rfl⟩
      · rintro σ' H' ⟨rfl, rfl⟩
        generalize upd H p (.tup [.str (tx t), .str sl, .str bt]) = H1 at k ⊢
        have hrp : Txt.removeprefix (tx t) (Str.ofString "-") = tx (n : Int) := by
          rcases hn with rfl | ⟨rfl, h0⟩
          · exact strip_tx n
          · exact strip_neg h0
        refine ⟨_, rfl, ⟨_, rfl⟩, _, _, rfl, rfl, by rw [sizeLine_eq]; omega, ?_⟩
        rw [hrp]
        refine ⟨_, rfl, tx (n : Int), rfl, ascn n, _, rfl, ?_⟩
        rw [okn n]
        refine iteF ?_
        refine ⟨_, rfl, tx (m : Int), rfl, ascn m, _, rfl, ?_⟩
        rw [okn m]
        refine iteF ?_
        refine ⟨_, rfl, tx (n : Int), rfl, okn n, ln0, ?_⟩
        rw [valn n]
        refine ⟨_, rfl, tx (m : Int), rfl, okn m, lm0, ?_⟩
        rw [valn m]
        have hm0 : (m : Int) ≠ 0 := by omega
        refine ⟨_, rfl, rfl, _, rfl, ?_⟩
        rw [decide_eq_false (show ¬ V.int (m : Int) = V.int 0 from fun e => hm0 (V.int.inj e))]
        refine iteF ?_
        refine ⟨rfl, ?_⟩
        refine ⟨_, rfl, _, rfl, rfl, _, rfl, ?_⟩
        rcases hn with rfl | ⟨rfl, h0⟩
        · rw [decide_eq_true rfl]
          refine iteT ?_
          refine ⟨_, rfl, _, rfl, ?_⟩
          intro x dx h1 h2 h3
          refine made1 h1 h2 h3 hm0 (bigB hB) fun H2 s2 r2 => ?_
          have r2 := r2.cong e0
          obtain ⟨dx2, hX⟩ := id r2
          refine ⟨_, rfl, x, dx2, _, rfl, hX, x, _, _, rfl, r2, DT, hB, fun H3 s3 => ⟨_, rfl, ?_⟩⟩
          refine ⟨_, rfl, rfl, _, rfl, ?_⟩
          rw [decide_eq_true rfl]
          refine iteF ?_
          exact ⟨_, rfl, k x H3 (s2.trans s3) (r2.same s3)⟩
        · rw [decide_eq_false (show ¬ V.str (tx (-(n : Int))) = V.str (tx (n : Int)) from fun e => by
            have := tx_inj (V.str.inj e)
            omega)]
          refine iteF ?_
          refine ⟨_, rfl, _, rfl, _, rfl, ?_⟩
          intro x dx h1 h2 h3
          refine made1 h1 h2 h3 hm0 (bigB hB) fun H2 s2 r2 => ?_
          have r2 := r2.cong e0
          obtain ⟨dx2, hX⟩ := id r2
          refine ⟨_, rfl, x, dx2, _, rfl, hX, x, _, _, rfl, r2, DT, hB, fun H3 s3 => ⟨_, rfl, ?_⟩⟩
          refine ⟨_, rfl, rfl, _, rfl, ?_⟩
          rw [decide_eq_true rfl]
          refine iteF ?_
          exact ⟨_, rfl, k x H3 (s2.trans s3) (r2.same s3)⟩
    · have hno : ∀ t b, ¬ Can z t b := fun t b h => hcan ⟨t, b, h⟩
      have hsum := StrLaws.partition_sum z (Str.ofString "/")
      obtain ⟨a, sl, bt, hP⟩ : ∃ a sl bt : Str, Txt.partition z (Str.ofString "/") = (a, sl, bt) := ⟨_, _, _, rfl⟩
      rw [hP] at hsum
      have hsum : a ++ sl ++ bt = z := hsum
      have lapp : ∀ a b : Str, (a ++ b).length = a.length + b.length := fun a b => by rw [len_tl, tl_append, List.length_append, ← len_tl, ← len_tl]
      have hla : a.length ≤ 2200 := by
        rw [← hsum, lapp, lapp] at hlen
        omega
      have hlb : bt.length ≤ 2200 := by
        rw [← hsum, lapp, lapp] at hlen
        omega
      have tls : z.cps.toList = a.cps.toList ++ sl.cps.toList ++ bt.cps.toList := by
        rw [← hsum]
        show tl (a ++ sl ++ bt) = _
        rw [tl_append, tl_append]
      have ha : Asc a := fun c hc => hasc c (by rw [tls]; exact List.mem_append_left _ (List.mem_append_left _ hc))
      have hb : Asc bt := fun c hc => hasc c (by rw [tls]; exact List.mem_append_right _ hc)
      have lz : z.length ≤ sizeLine := by
        rw [sizeLine_eq]
        omega
      refine ⟨_, rfl, ⟨_, rfl⟩, _, _, rfl, rfl, by decide +kernel, lz, fun p hpn => ?_⟩
      have S1 := same_upd (o := .tup [.str a, .str sl, .str bt]) hpn
      rw [hP]
      refine ⟨p, _, rfl, SqT.of upd_same, rfl, _, _, rfl, _, _, rfl, _, _, rfl, rfl, ?_⟩
      generalize upd H p (.tup [.str a, .str sl, .str bt]) = H1 at S1 ⊢
      refine ⟨fun σ' H' => ∃ bt' : Str, σ' = [some (.ref C), some (.str z), some (.str a), some (.str sl), some (.str bt'), none, none, none, none] ∧ H' = H1 ∧ Asc bt' ∧ bt'.length ≤ 2200, ?_, ?_⟩
      · refine ⟨_, rfl, rfl, _, rfl, ?_⟩
        refine ite2 (fun _ => ?_) (fun _ => ?_)
        · exact ⟨Str.ofString "1", rfl, rfl, by unfold Asc; decide +kernel, by decide +kernel⟩
        · exact ⟨bt, rfl, rfl, hb, hlb⟩
      · rintro σ' H' ⟨bt', rfl, rfl, hb', hlb'⟩
        have htd : Asc (Txt.removeprefix a (Str.ofString "-")) ∧ (Txt.removeprefix a (Str.ofString "-")).length ≤ 2200 := by
          rw [PySem.StrLaws.removeprefix_eq]
          split
          · refine ⟨fun c hc => ha c (List.mem_of_mem_drop (List.mem_of_mem_take hc)), ?_⟩
            rw [len_tl]
            show ((a.cps.toList.drop _).take _).length ≤ 2200
            rw [List.length_take, List.length_drop]
            have : a.cps.toList.length ≤ 2200 := by rw [len_tl] at hla; exact hla
            omega
          · exact ⟨ha, hla⟩
        refine ⟨_, rfl, ⟨_, rfl⟩, _, _, rfl, rfl, by rw [sizeLine_eq]; omega, ?_⟩
        generalize Txt.removeprefix a (Str.ofString "-") = td at htd ⊢
        obtain ⟨ht1, ht2⟩ := htd
        refine ⟨_, rfl, td, rfl, ht1, _, rfl, ?_⟩
        by_cases k1 : okD td = true
        case neg =>
          rw [Bool.eq_false_iff.mpr k1]
          refine iteT (iteT ?_)
          refine ⟨by show 1 ≤ 1000; decide, fun e he => ⟨e, 0, rfl, upd_same, fun dx hdx hne => ⟨rfl, dx, [("row", .int 0)], upd_same, by rw [upd_ne hne]; exact upd_same, by rw [upd_ne hne] at hdx; exact hdx, ?_⟩⟩⟩
          rw [upd_ne hne] at hdx
          refine ke hno dx _ (fun c o ec => ?_) upd_same
          have ec1 := S1 _ _ ec
          have n1 := ne_of_none ec1 he
          have n2 := ne_of_none ec1 hdx
          rw [upd_ne n2, del_ne n1, upd_ne n1, upd_ne n2, upd_ne n1]
          exact ec1
        rw [k1]
        refine iteF ?_
        refine ⟨_, rfl, bt', rfl, hb', _, rfl, ?_⟩
        by_cases k2 : okD bt' = true
        case neg =>
          rw [Bool.eq_false_iff.mpr k2]
          refine iteT ?_
          refine ⟨by show 1 ≤ 1000; decide, fun e he => ⟨e, 0, rfl, upd_same, fun dx hdx hne => ⟨rfl, dx, [("row", .int 0)], upd_same, by rw [upd_ne hne]; exact upd_same, by rw [upd_ne hne] at hdx; exact hdx, ?_⟩⟩⟩
          rw [upd_ne hne] at hdx
          refine ke hno dx _ (fun c o ec => ?_) upd_same
          have ec1 := S1 _ _ ec
          have n1 := ne_of_none ec1 he
          have n2 := ne_of_none ec1 hdx
          rw [upd_ne n2, del_ne n1, upd_ne n1, upd_ne n2, upd_ne n1]
          exact ec1
        rw [k2]
        refine iteF ?_
        refine ⟨_, rfl, td, rfl, k1, ht2, ?_⟩
        refine ⟨_, rfl, bt', rfl, k2, hlb', ?_⟩
        have dg : ∀ y : Str, okD y = true → y.length ≤ 2200 → Dg ((digitsVal y.cps.toList : Nat) : Int) := fun y hy hl => by
          have h1 := val_lt _ (okD_iff.mp hy).2
          rw [len_tl] at hl
          exact Nat.lt_of_lt_of_le h1 (Nat.pow_le_pow_right (by decide) (Nat.le_trans hl (by decide)))
        have DU := dg td k1 ht2
        have DV := dg bt' k2 hlb'
        have DN : Dg (-((digitsVal td.cps.toList : Nat) : Int)) := by
          show (-((digitsVal td.cps.toList : Nat) : Int)).natAbs < _
          rw [Int.natAbs_neg]
          exact DU
        refine ⟨_, rfl, rfl, _, rfl, ?_⟩
        by_cases k3 : ((digitsVal bt'.cps.toList : Nat) : Int) = 0
        case pos =>
          rw [decide_eq_true (show V.int ((digitsVal bt'.cps.toList : Nat) : Int) = V.int 0 by rw [k3])]
          refine iteT ?_
          refine ⟨by show 1 ≤ 1000; decide, fun e he => ⟨e, 0, rfl, upd_same, fun dx hdx hne => ⟨rfl, dx, [("row", .int 0)], upd_same, by rw [upd_ne hne]; exact upd_same, by rw [upd_ne hne] at hdx; exact hdx, ?_⟩⟩⟩
          rw [upd_ne hne] at hdx
          refine ke hno dx _ (fun c o ec => ?_) upd_same
          have ec1 := S1 _ _ ec
          have n1 := ne_of_none ec1 he
          have n2 := ne_of_none ec1 hdx
          rw [upd_ne n2, del_ne n1, upd_ne n1, upd_ne n2, upd_ne n1]
          exact ec1
        have hv0 := k3
        rw [decide_eq_false (show ¬ V.int ((digitsVal bt'.cps.toList : Nat) : Int) = V.int 0 from fun e => k3 (V.int.inj e))]
        refine iteF ?_
        refine ⟨rfl, ?_⟩
        refine ⟨_, rfl, _, rfl, rfl, _, rfl, ?_⟩
        refine ite2 (fun _ => ?_) (fun _ => ?_)
        · refine ⟨_, rfl, _, rfl, ?_⟩
          intro x dx h1 h2 h3
          refine made1 h1 h2 h3 hv0 (bigB DV) fun H2 s2 r2 => ?_
          obtain ⟨dx2, hX⟩ := id r2
          have D1 : Dg (nt ((digitsVal td.cps.toList : Nat) : Int) ((digitsVal bt'.cps.toList : Nat) : Int)) := Nat.lt_of_le_of_lt (nt_le hv0) DU
          have D2 : Dg (nb ((digitsVal td.cps.toList : Nat) : Int) ((digitsVal bt'.cps.toList : Nat) : Int)) := Nat.lt_of_le_of_lt (nb_le hv0) DV
          refine ⟨_, rfl, x, dx2, _, rfl, hX, x, _, _, rfl, r2, D1, D2, fun H3 s3 => ⟨_, rfl, ?_⟩⟩
          refine ⟨_, rfl, rfl, _, rfl, ?_⟩
          rw [decide_eq_false (show ¬ V.str (rt (nt ((digitsVal td.cps.toList : Nat) : Int) ((digitsVal bt'.cps.toList : Nat) : Int)) (nb ((digitsVal td.cps.toList : Nat) : Int) ((digitsVal bt'.cps.toList : Nat) : Int))) = V.str z from fun e => hno _ _ ⟨nb_pos hv0, cop hv0, (V.str.inj e).symm⟩)]
          refine iteT ?_
          have S3 := S1.trans (s2.trans s3)
          refine ⟨by show 1 ≤ 1000; decide, fun e he => ⟨e, 0, rfl, upd_same, fun dx hdx hne => ⟨rfl, dx, [("row", .int 0)], upd_same, by rw [upd_ne hne]; exact upd_same, by rw [upd_ne hne] at hdx; exact hdx, ?_⟩⟩⟩
          rw [upd_ne hne] at hdx
          refine ke hno dx _ (fun c o ec => ?_) upd_same
          have ec1 := S3 _ _ ec
          have n1 := ne_of_none ec1 he
          have n2 := ne_of_none ec1 hdx
          rw [upd_ne n2, del_ne n1, upd_ne n1, upd_ne n2, upd_ne n1]
          exact ec1
        · refine ⟨_, rfl, _, rfl, _, rfl, ?_⟩
          intro x dx h1 h2 h3
          refine made1 h1 h2 h3 hv0 (bigB DV) fun H2 s2 r2 => ?_
          obtain ⟨dx2, hX⟩ := id r2
          have D1 : Dg (nt (-((digitsVal td.cps.toList : Nat) : Int)) ((digitsVal bt'.cps.toList : Nat) : Int)) := Nat.lt_of_le_of_lt (nt_le hv0) DN
          have D2 : Dg (nb (-((digitsVal td.cps.toList : Nat) : Int)) ((digitsVal bt'.cps.toList : Nat) : Int)) := Nat.lt_of_le_of_lt (nb_le hv0) DV
          refine ⟨_, rfl, x, dx2, _, rfl, hX, x, _, _, rfl, r2, D1, D2, fun H3 s3 => ⟨_, rfl, ?_⟩⟩
          refine ⟨_, rfl, rfl, _, rfl, ?_⟩
          rw [decide_eq_false (show ¬ V.str (rt (nt (-((digitsVal td.cps.toList : Nat) : Int)) ((digitsVal bt'.cps.toList : Nat) : Int)) (nb (-((digitsVal td.cps.toList : Nat) : Int)) ((digitsVal bt'.cps.toList : Nat) : Int))) = V.str z from fun e => hno _ _ ⟨nb_pos hv0, cop hv0, (V.str.inj e).symm⟩)]
          refine iteT ?_
          have S3 := S1.trans (s2.trans s3)
          refine ⟨by show 1 ≤ 1000; decide, fun e he => ⟨e, 0, rfl, upd_same, fun dx hdx hne => ⟨rfl, dx, [("row", .int 0)], upd_same, by rw [upd_ne hne]; exact upd_same, by rw [upd_ne hne] at hdx; exact hdx, ?_⟩⟩⟩
          rw [upd_ne hne] at hdx
          refine ke hno dx _ (fun c o ec => ?_) upd_same
          have ec1 := S3 _ _ ec
          have n1 := ne_of_none ec1 he
          have n2 := ne_of_none ec1 hdx
          rw [upd_ne n2, del_ne n1, upd_ne n1, upd_ne n2, upd_ne n1]
          exact ec1
end
end RT
set_option maxRecDepth 100000
namespace PySem.W
open PySem PySem.Calls PySem.NumText PyProof.Rows
namespace KIN
theorem wp_textK {prog : Program} {w : World} {K : PySem.W.Frag} {A : Around} {E : Value → Shared → Prop} {s : Shared} {Q : Value → Shared → Prop} {v : Value} {text : List Nat} {n : Int} (X : K.In s.heap) (hN : GL.NoDig K)
    (hs : ¬ (text.takeWhile (· != 0)).length ≤ 640) (hr : (int_private% "readNumeral") 4300 10 (text.takeWhile (· != 0)) = (int_private% "Numeral.value") n)
    (ha : ((text.takeWhile (· != 0)).length == text.length) = true) (h : Q (.int n s.toks) { s with toks := s.toks + 1 }) :
    wpAny (model prog w) A ((int_private% "intFromText") v text 10) Q E s := by
  obtain ⟨hp, g, d, tk, os⟩ := s
  repeat (any_goals (first
    | assumption
    | (with_reducible refine wpAny_ite_false (decide_eq_false hs) ?_)
    | (with_reducible refine GL.max_K X hN ?_)
    | (with_reducible refine wpAny_bind (GL.max_K X hN ?_))
    | (with_reducible refine wpAny_ite_true (decide_eq_true ha) ?_)
    | wp_step))
  all_goals (try rw [hr])
  all_goals (try dsimp only)
  repeat (any_goals (first
    | assumption
    | (with_reducible refine wpAny_ite_true (decide_eq_true ha) ?_)
    | wp_step))
set_option maxHeartbeats 4000000 in
theorem meets_textK {K : PySem.W.Frag} (hN : GL.NoDig K) {x : PySem.Str} {u : Tok} {n : Int} (hl : ¬ (numSeenOf x).length ≤ 640) (hz : x.length ≤ sizeLine) (hn : PySem.intText? x = some n) :
    Meets (Builtin.«int.__new__» ⟨[.type "int", .str x u], []⟩) (fun _ R s => K.In s.heap ∧ R (.ok (.ret (.int n s.toks))) { s with toks := s.toks + 1 }) :=
  .of_wp fun prog w A R s h => by
    obtain ⟨hp, g, d, tk, os⟩ := s
    obtain ⟨X, h⟩ := h
    have f1 := F.conv_sub_int
    have f2 := F.madeHere_int
    have f3 := str_int
    have f4 := str_idx
    have f5 := str_trunc
    have f6 : typeOf (.str x u) = pure (.type "str") := rfl
    have hr : (int_private% "readNumeral") 4300 10 (numSeenOf x) = (int_private% "Numeral.value") n ∧ ((numSeenOf x).length == (numTextOf x).length) = true := by
      rcases read4300 x hz with ⟨m, h1, h2, h3⟩ | ⟨h1, _⟩
      · rw [hn] at h1
        injection h1 with h1
        subst h1
        exact ⟨h3, h2⟩
      · rw [hn] at h1
        cases h1
    have hk := Hid.mk (And.intro hl hr)
    have hX := Hid.mk (And.intro X hN)
    clear hr hl hn hz X hN
    repeat (any_goals (first
      | assumption
      | ((with_reducible show wpAny _ _ ((int_private% "intFromText") _ _ _) _ _ _); refine wp_textK hX.out.1 hX.out.2 hk.out.1 hk.out.2.1 hk.out.2.2 ?_)
      | wp_step))
    all_goals first | exact ⟨_, rfl, h⟩ | skip
set_option maxHeartbeats 4000000 in
theorem meets_short {x : PySem.Str} {u : Tok} {n : Int} (hs : (numSeenOf x).length ≤ 640) (hn : PySem.intText? x = some n) : Meets (Builtin.«int.__new__» ⟨[.type "int", .str x u], []⟩) (fun _ R s => R (.ok (.ret (.int n s.toks))) { s with toks := s.toks + 1 }) :=
  .of_wp fun prog w A R s h => by
    obtain ⟨hp, g, d, tk, os⟩ := s
    have f1 := F.conv_sub_int
    have f2 := F.madeHere_int
    have f3 := str_int
    have f4 := str_idx
    have f5 := str_trunc
    have f6 : typeOf (.str x u) = pure (.type "str") := rfl
    have hr : (int_private% "readNumeral") 0 10 (numSeenOf x) = (int_private% "Numeral.value") n ∧ ((numSeenOf x).length == (numTextOf x).length) = true := by
      rcases read0 x hs with ⟨m, h1, h2, h3⟩ | ⟨h1, _⟩
      · rw [hn] at h1
        injection h1 with h1
        subst h1
        exact ⟨h3, h2⟩
      · rw [hn] at h1
        cases h1
    have hk := Hid.mk (And.intro hs hr)
    clear hs hr hn
    repeat (any_goals (first
      | assumption
      | ((with_reducible show wpAny _ _ ((int_private% "intFromText") _ _ _) _ _ _); refine wp_text hk.out.1 hk.out.2.1 hk.out.2.2 ?_)
      | wp_step))
    all_goals first | exact ⟨_, rfl, h⟩ | skip
theorem call_textK {prog : Program} {w : World} {K : PySem.W.Frag} {A : Around} {E : Value → Shared → Prop} {s : Shared} {Q : Value → Shared → Prop} {x : PySem.Str} {t : Tok} {n : Int} (X : K.In s.heap) (hN : GL.NoDig K) (hn : PySem.intText? x = some n) (hz : x.length ≤ sizeLine)
    (h : Q (.int n s.toks) { s with toks := s.toks + 1 }) : wpAny (model prog w) A (call (.type "int") [.str x t]) Q E s := by
  by_cases hl : (numSeenOf x).length ≤ 640
  · by_cases hl2 : x.length ≤ 640
    · exact call_text hn hl2 h
    · exact call_int_1 (meets_short hl hn) ⟨rfl, h⟩
  · exact call_int_1 (meets_textK (K := K) hN hl hz hn) ⟨X, ⟨rfl, h⟩⟩
end KIN
end PySem.W
namespace GL
open PySem PySem.Spec PyProof.Rows L2
section
variable {X : Cx}
/-- int(s), s of at most 4300 digits -/
theorem call_int_strW (hN : NoDig X.K) : CallR X (.type "int") (fun xs H Q => ∃ a n, xs = [.str a] ∧ PySem.intText? a = some n ∧ a.length ≤ sizeLine ∧ Q (.int n) H) := by
  intro pins s σ H xs us Q I r h
  obtain ⟨a, n, rfl, hn, hz, q⟩ := h
  obtain ⟨u, rfl, ru⟩ := r.one
  obtain ⟨t, rfl⟩ := (show ∃ t, u = Value.str a t from ru)
  exact PySem.W.KIN.call_textK I.kIn hN hn hz ⟨.int n, H, I.tok _, ⟨_, rfl⟩, q⟩
end
end GL
set_option maxRecDepth 100000
set_option maxHeartbeats 2000000
namespace GL
open PySem PySem.Spec PyProof.Rows L2
section
variable {X : Cx}
/-- a kept exception stands in the heap -/
theorem kept_at {pins : List (Addr × Obj)} {σ : L2.St} {H : Hp} {s : Shared} {a D dd : Addr} {fs : List (Str × V)} (I : Inv X pins σ H s) (ha : H a = some (ExV (.ref D) (some dd) a)) (hd : H dd = some (.xd fs)) :
    ∃ (ob od : Obj), PySem.W.InstAt s.heap a ob D (some od) ∧ ob.dict = some dd ∧ ∃ mA : Str → Option Value, (∀ f, RelO (fs.lookup f) (mA f)) ∧ ∀ name, PySem.W.lookIn name od = some (mA name) := by
  obtain ⟨⟨ob, flds, hget, hz, hdat⟩, _, _⟩ := I.hok a _ ha
  obtain ⟨mA, hns, hr⟩ := (show ObjOk X.prog X.w H s.heap dd (.xd fs) from I.hok dd _ hd)
  obtain ⟨od, ho, hl⟩ := lookIn_ns hns
  refine ⟨ob, od, ⟨hget, hz.1, by unfold PySem.W.notCls; rw [hdat] <;> rfl, by rw [hz.2]; exact ho⟩, hz.2, mA, hr, hl⟩
/-- e.f of a kept exception -/
def tXfV (K : PySem.W.Frag) (f : Str) (te : TE) : TE := fun σ H Q => te σ H fun x H1 => ∃ (a D dd : Addr) (fs : List (Str × V)) (v : V), x = .ref a ∧ XfC K D ∧ PySem.W.findIn K (.ref D) f = some none ∧ H1 a = some (ExV (.ref D) (some dd) a) ∧ H1 dd = some (.xd fs) ∧ fs.lookup f = some v ∧ Q v H1
theorem pe_xfV {e : Expr} {te : TE} {pos : Pos} {n : Str} (he : PE X e te) (hb : attributeBase e n X.env (eval e X.env) = eval e X.env := by rfl) : PE X (.Attribute e n pos) (tXfV X.K n te) := by
  refine ⟨fun pins s σ H Q I h => ?_⟩
  refine attr_of hb (thn (he.run pins s σ H _ I h) fun u s1 hh => ?_)
  obtain ⟨x, H1, I1, rx, a, D, dd, fs, v, rfl, T, hno, ha, hd, l, q⟩ := hh
  obtain rfl : u = Value.ref a := rx
  obtain ⟨ob, od, J, _, mA, hr, hl⟩ := kept_at I1 ha hd
  obtain ⟨w', hw, rw'⟩ := RelO.some_of (v := v) (o := mA n) (by rw [← l]; exact hr n)
  exact HandSPX.exc_get I1.kIn J T.ga T.gg T.exC (PySem.W.findObj_own T.hdC hno rfl (by rw [hl, hw])) (handed_of rw') ⟨v, H1, I1.tok _, rw', q⟩
/-- isinstance(v, c), v a kept exception with its own dict -/
def rIsVd (K : PySem.W.Frag) : List V → Hp → VK → Prop := fun xs H Q => ∃ (a D dd : Addr) (fs : List (Str × V)) (c : V) (u : Value) (b : Bool), xs = [.ref a, c] ∧ ExcC K D ∧ H a = some (ExV (.ref D) (some dd) a) ∧ H dd = some (.xd fs) ∧ ClsV c u ∧ PySem.W.kitOne K (.ref D) u = some b ∧ Q (.bl b) H
theorem call_isVd : CallR X (.builtin "isinstance") (rIsVd X.K) := by
  intro pins s σ H xs us Q I r h
  obtain ⟨a, D, dd, fs, c, u, b, rfl, hD, ha, hd, hc, e, q⟩ := h
  obtain ⟨u1, u2, rfl, r1, r2⟩ := vals2 r
  obtain rfl : u1 = Value.ref a := r1
  have ec := hc.eq r2
  subst ec
  obtain ⟨ob, od, J, _, _⟩ := kept_at I ha hd
  have hcl : (PySem.W.clsIn X.K D).isSome = true := by
    have h := hD.hd
    unfold PySem.W.hasDictIn at h
    cases hq : PySem.W.clsIn X.K D with
    | none => rw [hq] at h; cases h
    | some _ => rfl
  exact PySem.W.kia_one (PySem.W.kitx_exc hcl hD.hg hD.hk hD.hs hD.ha hD.hn hD.ht hD.hm) I.kIn J e (fun z => nomatch z) fun tk => ⟨.bl b, H, I.tok tk, rfl, q⟩
/-- C.m(..) by a classmethod that may raise, the wish by the slots -/
def tCMethX (C : Addr) (sp : Sp) (E : L2.St → XK) (ta : TE) (t : TA) : TE := fun σ H Q => ta σ H fun x H1 => x = .ref C ∧ t σ H1 fun vs H2 => sp (.ref C :: vs) H2 Q (E σ)
variable {CX : CXT} {k : Nat} {C p g : Addr} {mc : Value} {fd : FuncData} {ps : List Str} {sp : Sp} {ES : L2.St → XK} {o e : Expr} {es : List Expr} {m : Str} {pos apos : Pos} {ta : TE} {t : TA} {pl : Sem Bool}
theorem run_cmS {q : Addr} {pins : List (Addr × Obj)} {σ : L2.St} {H : Hp} {s : Shared} {Q : VK} {us : List Value} {vs : List V} (F : FnOk X.prog X.w X.K X.mg X.base CX k g fd ps sp) (hr : Room k X.A) (hb : L2.Binds X.K fd ps [])
    (hx : PassesAt CX X σ (ES σ)) (I : Inv X ((q, PySem.W.methodObj (.ref g) (.ref C)) :: pins) σ H s) (r : Vals vs us) (h : sp (.ref C :: vs) H Q (ES σ)) : wpAny (model X.prog X.w) X.A (call (.ref q) us) (EP X pins σ Q) X.xe s := by
  have r2 : Vals (V.ref C :: vs) (Value.ref C :: us) := .cons rfl r
  have hl : (Value.ref C :: us).length = ps.length := by rw [← r2.length]; exact F.len _ _ _ _ h
  have b := hb s (Value.ref C :: us) I.kIn (by rw [List.append_nil]; exact hl)
  rw [List.append_nil] at b
  have z : wpAny (model X.prog X.w) X.A (call (.ref q) us) (EP X ((q, PySem.W.methodObj (.ref g) (.ref C)) :: pins) σ Q) X.xe s := by
    refine wpAny_call (PySem.W.method_call (ClX.pin_at I) (codeAny_mono (F.run X.A X.stack s H ⟨Value.ref C :: us, []⟩ (Value.ref C :: us) (V.ref C :: vs) Q (ES σ) hr I.env0 b r2 h) fun r s' hq => ?_))
    cases r with
    | error e => exact hx _ H s e s' I hq
    | ok fl =>
      cases fl with
      | ret u => exact I.after hq
      | next => exact False.elim hq
      | brk => exact False.elim hq
      | cont => exact False.elim hq
  exact thn z fun _ _ y => ClX.unpinE y
theorem pe_cmethX (he : PE X o ta) (r : ClX.CRead X.K C mc) (c : ClX.CMet X.K C mc m p g) (F : FnOk X.prog X.w X.K X.mg X.base CX k g fd ps sp) (hr : Room k X.A) (hb : L2.Binds X.K fd ps []) (hx : ∀ σ, PassesAt CX X σ (ES σ)) (ha : PA X (e :: es) t)
    (hst : starEach (e :: es) X.env = (false, eval e X.env) :: starEach es X.env := by rfl) (hpl : (backTo pos (starEach es X.env)).any (·.1) = false := by rfl)
    (ht : eval (.Call (.Attribute o m apos) (e :: es) [] pos) X.env = (do
      let obj ← eval o X.env
      standAt apos.atName
      let (f, first) ← holding [obj] (getMethod obj m pl)
      callWith pos f first (backTo pos (starEach (e :: es) X.env)) (backToKw pos (keywordEach [] X.env))) := by rfl) :
    PE X (.Call (.Attribute o m apos) (e :: es) [] pos) (tCMethX C sp ES ta t) := by
  refine ⟨fun pins s σ H Q I h => ?_⟩
  refine PySem.W.methodCall_KW (pl := pl) (thn (he.run pins s σ H _ I h) fun u s1 hh => ?_) ht
  obtain ⟨x, H1, I1, rx, ex, q⟩ := hh
  subst ex
  obtain rfl : u = Value.ref C := rx
  refine ClX.getmethcm_ok I1 r c fun s2 I2 => ?_
  refine ClX.callwith_cm I2 (ClX.base_none I1 (Nat.le_refl _)) c.fi (thn (ha.run pos _ s2 σ H1 _ I2 q) fun us s3 h3 => ?_) hst hpl
  obtain ⟨vs, H2, I3, rv, q2⟩ := h3
  exact ⟨⟨ClX.pin_at I3, I3.kIn⟩, run_cmS F hr hb (hx σ) I3 rv q2⟩
end
end GL
set_option maxRecDepth 100000
set_option maxHeartbeats 1000000
namespace RT
open PySem PySem.Spec PyProof.Rows L2 GL MX ClX TL NumText
abbrev sTold : Stmt := top 24
theorem can_dg {z : Str} {t b : Int} (h : Can z t b) (hlen : z.length ≤ 2200) : Dg t ∧ Dg b := by
  obtain ⟨hpos, hcop, rfl⟩ := h
  have lapp : ∀ a b : Str, (a ++ b).length = a.length + b.length := fun a b => by rw [len_tl, tl_append, List.length_append, ← len_tl, ← len_tl]
  have dgn : ∀ j : Nat, (tx (j : Int)).length ≤ 2200 → Dg (j : Int) := fun j hj => by
    have h1 := val_lt (numL j) (numL_digits j)
    rw [numL_val] at h1
    rw [len_tl] at hj
    have hj : (tx (j : Int)).cps.toList.length ≤ 2200 := hj
    rw [tl_tx] at hj
    exact Nat.lt_of_lt_of_le h1 (Nat.pow_le_pow_right (by decide) (by omega))
  obtain ⟨m, rfl⟩ : ∃ m : Nat, b = (m : Int) := ⟨b.toNat, by omega⟩
  have lm0 : (tx (m : Int)).length ≤ 2200 := by
    unfold rt at hlen
    split at hlen
    · rename_i h1
      rw [h1]
      decide +kernel
    · rw [lapp, lapp] at hlen
      omega
  have lt0 : (tx t).length ≤ 2200 := by
    unfold rt at hlen
    split at hlen
    · exact hlen
    · rw [lapp, lapp] at hlen
      omega
  refine ⟨?_, dgn m lm0⟩
  rcases Int.eq_nat_or_neg t with ⟨n, rfl | rfl⟩
  · exact dgn n lt0
  · by_cases h0 : n = 0
    · subst h0
      show (0 : Nat) < 10 ^ 2400
      exact Nat.pow_pos (by decide)
    · have hl : (tx (n : Int)).length ≤ 2200 := by
        rw [len_tl] at lt0 ⊢
        have lt1 : (tx (-(n : Int))).cps.toList.length ≤ 2200 := lt0
        show (tx (n : Int)).cps.toList.length ≤ 2200
        rw [tl_neg (by omega), List.length_cons] at lt1
        rw [tl_tx]
        omega
      show (-(n : Int)).natAbs < 10 ^ 2400
      rw [Int.natAbs_neg]
      exact dgn n hl
def spTold : Sp := fun vs H Q _ => ∃ z : Str, vs = [.str z] ∧ Asc z ∧ z.length ≤ 2200 ∧ (∀ t b, Can z t b → ∀ H', Same H H' → Q (.str z) H') ∧ ((∀ t b, ¬ Can z t b) → ∀ H', Same H H' → Q (.int 0) H')
section
variable {P : Program} {w : World} {K : PySem.W.Frag} {mg : Str → Option Value} {base : Heap} {C CI CP f : Addr} {fd : FuncData}
theorem scTold : FnScope ["text", "caught", "found", "error"] ["text"] (defScope sTold) := ⟨rfl, rfl, rfl, by decide +kernel, rfl, by decide +kernel, by decide +kernel⟩
theorem ok_told {fS gP p : Addr} {fdS fdP : FuncData} (F : FnP K "_law_told" "_law_told" sTold f fd) (T : Txt K mg C)
    (mSt : Meth K C "__str__" fS) (FSt : FnP K "__str__" "Ratio.__str__" sStr fS fdS) (GSt : FnOk P w K mg base CX0 2 fS fdS ["self"] (spStrW C))
    (hR : CRead K C (.type "type")) (hM : CMet K C (.type "type") "parse" p gP) (FP : FnP K "parse" "Ratio.parse" sParse gP fdP) (GP : FnOk P w K mg base (L2.CX P w) 5 gP fdP ["cls", "text"] (spParW C CI))
    (gPE : mg "PartError" = some (.ref CP)) (gIT : mg "InvalidText" = some (.ref CI)) (em : PySem.W.exmOne K (.ref CI) (.ref CP) = some true) (XI : ExcC K CI) (XF : XfC K CI) (hno : PySem.W.findIn K (.ref CI) "row" = some none)
    (iI : PySem.W.kitOne K (.ref CI) (.ref CI) = some true) (iV : PySem.W.kitOne K (.ref CI) (.type "ValueError") = some true) (hVE : mg "ValueError" = none) : FnOk P w K mg base CX0 6 f fd ["text"] spTold := by
  have bP : L2.Binds K fdP ["cls", "text"] [] := FP.bindsN fun _ _ _ _ _ _ us hl => match us, hl with | [_, _], _ => rfl
  have bSt : L2.Binds K fdS ["self"] [] := FSt.bindsN fun _ _ _ _ _ _ us hl => match us, hl with | [_], _ => rfl
  refine F.ok scTold (fun vs H Q E h => ?_) (fun cdv A outer s H vs Q E hr h => ?_)
  · obtain ⟨z, rfl, _⟩ := h
    rfl
  · obtain ⟨z, rfl, ha, hlen, k1, k2⟩ := h
    have nd := scTold.nd
    have r4 : Room 4 _ := hr.mono (by decide)
    refine ⟨_, PSs.nox (pss_cons (ps_asg (pe_tup (pa_cons pe_non (pa_cons pe_non pa_nil))) (pg_tup (by rfl) (pgs_cons (pg_name (i := 1) nd rfl (Or.inl rfl)) (pgs_cons (pg_name (i := 2) nd rfl (Or.inl rfl)) pgs_nil))))
      (pss_cons (ps_try_keep (i := 3) (j := 1) (tb := fun W => tAsg (tCMethX C (spParW C CI) (WE W) (tC (.ref C)) (tCons (tVar 0) tNil)) (gName 2)) (Wout := fun _ _ _ _ => False) rfl rfl nd rfl rfl (by decide) rfl rfl rfl (by decide) (by decide) ⟨rfl, by decide, Or.inl gPE⟩ takes0
        (fun W pn xe tk _ => pss_one (ps_set (i := 2) nd rfl (Or.inl rfl) (by exact pe_cmethX (pe_glob (v := V.ref C) rfl T.mgC rfl) hR hM GP hr bP (fun σ => passAt tk σ) (pa_cons (pv 0) pa_nil)))))
      (pss_cons (ps_if (pt_cmpR op_isN (pv 1) pe_non (nomark _)) (pss_one (ps_ret (pe_ifExp (pt_val (pe_callB (C8.call_isC T.ins) (by rfl) T.isi (by decide +kernel) (pa_cons (pv 2) (pa_cons (pe_glob (v := V.ref C) rfl T.mgC rfl) pa_nil))))
        (pe_callTy (call_strOwn mSt (GSt.raw bSt .nil) r4 pass0) (by rfl) T.str (by decide +kernel) (pa_cons (pv 2) pa_nil)) pe_str))) pss_nil)
      (pss_one (ps_ret (pe_ifExp (PW.pt (pw_and (pt_val (pe_callB call_isVd (by rfl) T.isi (by decide +kernel) (pa_cons (pv 1) (pa_cons (pe_glob (v := V.ref CI) rfl gIT rfl) pa_nil)))) (pw_and1 (pt_val (pe_callB call_isVd (by rfl) T.isi (by decide +kernel) (pa_cons (pv 1) (pa_cons (pe_bltn (v := V.ty "ValueError") rfl hVE (by decide +kernel) rfl) pa_nil))))))) (pe_xfV (pv 1)) pe_str)))))), ?_⟩
    refine ⟨by show 2 ≤ sizeLine; decide, fun pt hpt => ?_⟩
    refine ⟨pt, _, rfl, SqT.of upd_same, rfl, _, _, rfl, _, _, rfl, rfl, ?_⟩
    have sp := same_upd (o := .tup [.non, .non]) hpt
    refine ⟨rfl, _, rfl, z, rfl, ha, hlen, fun t b hc o H1 hs rO => ?_, fun hn dx H1 hs hd => ?_⟩
    · obtain ⟨D1, D2⟩ := can_dg hc hlen
      obtain ⟨dX, hX⟩ := id rO
      refine ⟨_, rfl, rfl, _, rfl, iteT ?_⟩
      refine ⟨_, rfl, o, dX, _, rfl, hX, _, rfl, iteT ?_⟩
      refine ⟨_, rfl, o, dX, _, rfl, hX, o, _, _, rfl, rO, D1, D2, fun H2 s2 => ⟨_, rfl, ?_⟩⟩
      have e := hc.2.2
      rw [← e]
      exact k1 t b hc H2 ((sp.trans hs).trans s2)
    · refine ⟨true, em, fun _ a na => ?_, fun q => nomatch q⟩
      have hd2 : upd H1 a (ExV (.ref CI) (some dx) a) dx = some (.xd [("row", .int 0)]) := by
        rw [upd_ne (ne_of_none hd na)]
        exact hd
      refine ⟨_, rfl, rfl, _, rfl, iteF ?_⟩
      refine ⟨_, rfl, a, CI, dx, _, _, _, true, rfl, XI, upd_same, hd2, .own CI, iI, _, rfl, iteT ?_⟩
      refine ⟨_, rfl, a, CI, dx, _, _, _, true, rfl, XI, upd_same, hd2, .ty "ValueError", iV, _, rfl, iteT ?_⟩
      refine ⟨_, rfl, a, CI, dx, _, _, rfl, XF, hno, upd_same, hd2, rfl, ?_⟩
      exact k2 hn _ ((sp.trans hs).trans (same_upd na))
end
end RT
set_option maxRecDepth 100000
set_option maxHeartbeats 1000000
namespace GL
open PySem PySem.Spec PyProof.Rows L2
/-- the reading of a comprehension over a text -/
theorem lc_signs {z : Str} {g : TG} {tt : TT} {te : TE} {vs : List Nat} {σ : L2.St} {H1 : Hp} {D : Addr} {Qd : Hp → Prop} (Pv : Nat → Hp → Prop) (start : Pv 0 (upd H1 D (.lst [])))
    (turn : ∀ i c H, z.cps[i]? = some c → Pv i H → g (.str ⟨#[c]⟩) (wipe σ vs) H fun σ2 H2 => wipe σ2 vs = wipe σ vs ∧ tt σ2 H2 fun b H3 =>
      if b = true then te σ2 H3 fun y H4 => ∃ acc, H4 D = some (.lst acc) ∧ acc.length < sizeLine ∧ Pv (i + 1) (upd H4 D (.lst (acc ++ [y]))) else Pv (i + 1) H3) (done : ∀ H, Pv z.cps.size H → Qd H) :
    ∃ W : Nat → Nat → Hp → Prop, (∃ m, W 0 m (upd H1 D (.lst []))) ∧ ∀ i m H, W i m H →
      ((Its z).stop i H ∧ Qd H) ∨ ((Its z).go i H ∧ ∃ Nx : Hp → Prop, (∀ H', Nx H' → ∃ m', m' < m ∧ W (i + 1) m' H') ∧ ∀ x H', (Its z).yld i H x H' → g x (wipe σ vs) H' fun σ2 H2 => wipe σ2 vs = wipe σ vs ∧ tt σ2 H2 fun b H3 =>
        if b = true then te σ2 H3 fun y H4 => ∃ acc, H4 D = some (.lst acc) ∧ acc.length < sizeLine ∧ Nx (upd H4 D (.lst (acc ++ [y]))) else Nx H3) := by
  refine ⟨fun i m H => m + i = z.cps.size ∧ Pv i H, ⟨_, Nat.add_zero _, start⟩, fun i m H hw => ?_⟩
  obtain ⟨hm, hp⟩ := hw
  rcases Nat.lt_or_ge i z.cps.size with h | h
  · refine Or.inr ⟨h, Pv (i + 1), fun H' hp' => ⟨m - 1, by omega, by omega, hp'⟩, fun x H' hy => ?_⟩
    obtain ⟨rfl, c, hc, rfl⟩ := hy
    exact turn i c _ hc hp
  · have e : i = z.cps.size := by omega
    subst e
    exact Or.inl ⟨h, done H hp⟩
end GL
namespace RT
open PySem PySem.Spec PyProof.Rows L2 GL MX ClX TL NumText
abbrev sIsn : Stmt := top 22
/-- the digits of a number as they are written -/
def isN (z : Str) : Bool := okD z && (decide (z.cps.toList = [48]) || !decide (z.cps.toList.head? = some 48))
def spIsn : Sp := fun vs H Q _ => ∃ z : Str, vs = [.str z] ∧ Asc z ∧ z.length ≤ 2200 ∧ ∀ H', Same H H' → Q (.bl (isN z)) H'
/-- the signs that are no digits -/
def badL (l : List Nat) : List Nat := l.filter fun c => !(decide (48 ≤ c) && decide (c ≤ 57))
theorem digits10 {c : Nat} : decide (c ∈ (Str.ofString "0123456789").cps.toList) = (decide (48 ≤ c) && decide (c ≤ 57)) := by
  have e : (Str.ofString "0123456789").cps.toList = [48, 49, 50, 51, 52, 53, 54, 55, 56, 57] := by decide +kernel
  rw [e]
  by_cases h : 48 ≤ c ∧ c ≤ 57
  · rw [decide_eq_true h.1, decide_eq_true h.2]
    refine decide_eq_true ?_
    simp only [List.mem_cons, List.not_mem_nil, or_false]
    omega
  · have : ¬ c ∈ [48, 49, 50, 51, 52, 53, 54, 55, 56, 57] := by
      simp only [List.mem_cons, List.not_mem_nil, or_false]
      omega
    rw [decide_eq_false this]
    by_cases h1 : 48 ≤ c
    · rw [decide_eq_true h1, decide_eq_false (show ¬ c ≤ 57 by omega)] <;> rfl
    · rw [decide_eq_false h1] <;> rfl
theorem bad_ok {z : Str} (hne : z.cps.toList ≠ []) : okD z = decide (badL z.cps.toList = []) := by
  unfold okD badL
  cases hl : z.cps.toList with
  | nil => exact absurd hl hne
  | cons c r =>
    rw [Bool.eq_iff_iff, decide_eq_true_iff, List.filter_eq_nil_iff, Bool.and_eq_true, List.all_eq_true]
    constructor
    · rintro ⟨_, h⟩ a ha
      have := h a ha
      simp at this ⊢
      omega
    · intro h
      refine ⟨rfl, fun a ha => ?_⟩
      have := h a ha
      simp at this ⊢
      omega
section
variable {P : Program} {w : World} {K : PySem.W.Frag} {mg : Str → Option Value} {base : Heap} {C CI CP f : Addr} {fd : FuncData}
theorem scIsn : FnScope ["word", "sign"] ["word"] (defScope sIsn) := ⟨rfl, rfl, rfl, by decide +kernel, rfl, by decide +kernel, by decide +kernel⟩
theorem dp_strs {K : PySem.W.Frag} {H : Hp} : ∀ l : List Nat, DpAll K H (l.map fun c => V.str ⟨#[c]⟩) (l.map fun c => PyData.str ⟨#[c]⟩)
  | [] => .nil
  | c :: r => .cons (.str _) (dp_strs r)
theorem shaped_strs (l : List Nat) (ha : ∀ c ∈ l, c < 128) : SeqAt.shaped (.list (l.map fun c => PyData.str ⟨#[c]⟩)) = true := by
  have h1 : ∀ l : List Nat, (∀ c ∈ l, c < 128) → PyData.canLayAll0 (l.map fun c => PyData.str ⟨#[c]⟩) = true := fun l => by
    induction l with
    | nil => intro _; rfl
    | cons c r ih =>
      intro h
      have hc := h c List.mem_cons_self
      have e : PyData.strOk ⟨#[c]⟩ = true := by
        unfold PyData.strOk
        simp
        omega
      simp [PyData.canLayAll0, PyData.canLay0, ih (fun d hd => h d (List.mem_cons_of_mem _ hd)), e]
  have h2 : ∀ l : List Nat, PyData.depthAll (l.map fun c => PyData.str ⟨#[c]⟩) ≤ 1 := fun l => by
    induction l with
    | nil => simp [PyData.depthAll]
    | cons c r ih => simp [PyData.depthAll, PyData.depth]; omega
  unfold SeqAt.shaped
  rw [Bool.and_eq_true]
  refine ⟨by simp [PyData.canLay0, h1 l ha], decide_eq_true ?_⟩
  have := h2 l
  simp only [PyData.depth]
  omega
theorem eqv_strs (l : List Nat) : PyData.eqv (.list (l.map fun c => PyData.str ⟨#[c]⟩)) (.list []) = decide (l = []) := by
  cases l with
  | nil => simp [PyData.eqv, PyData.eqvAll]
  | cons c r => simp [PyData.eqv, PyData.eqvAll]
theorem bad_step {l : List Nat} {i c : Nat} (h : l[i]? = some c) : badL (l.take (i + 1)) = badL (l.take i) ++ (if (!(decide (48 ≤ c) && decide (c ≤ 57))) = true then [c] else []) := by
  unfold badL
  rw [List.take_succ, h, List.filter_append]
  congr 1
  show [c].filter _ = _
  simp only [List.filter_cons, List.filter_nil]
theorem ok_isn (F : FnP K "_law_is_number" "_law_is_number" sIsn f fd) : FnOk P w K mg base CX0 1 f fd ["word"] spIsn := by
  refine F.ok scIsn (fun vs H Q E h => ?_) (fun cdv A outer s H vs Q E hr h => ?_)
  · obtain ⟨z, rfl, _⟩ := h
    rfl
  · obtain ⟨z, rfl, ha, hlen, k⟩ := h
    have nd := scIsn.nd
    refine ⟨_, PSs.nox (pss_cons (ps_if (PW.pt (pw_or (pt_cmpR op_eq (pv 0) pe_str (nomark _)) (pw_or1 (pt_cmpR (op_neD hr.units) (pe_lc (own := [("sign", 1)]) (g := gName 1) (by rfl) nd (pi_str (pv 0)) (blkOk_by (own := [("sign", 1)]) (N := ["word", "sign"]) (sc := defScope sIsn) (by decide +kernel)) (fun _ _ _ _ _ => pg_name (i := 1) nd rfl (Or.inl rfl)) (fun _ _ _ _ _ => pts_one (pt_cmpR op_notIn_sign (pv 1) pe_str rfl)) (fun _ _ _ _ _ => pv 1)) (pe_lst pa_nil) (nomark _))))) (pss_one (ps_ret pe_bl)) pss_nil)
      (pss_one (ps_ret (pe_or (pe_cmpR op_eq (pv 0) pe_str (nomark _)) (pe_one (pe_cmpR op_ne (pe_item_str (pv 0) pe_int (fun _ _ => rfl)) pe_str (nomark _))))))), ?_⟩
    have lz : z.length ≤ sizeLine := by
      rw [sizeLine_eq]
      omega
    refine ⟨_, rfl, rfl, _, rfl, ?_⟩
    by_cases h0 : z.cps.toList = []
    · have e0 : z = Str.ofString "" := ext_tl h0
      rw [decide_eq_true (show V.str z = V.str (Str.ofString "") by rw [e0])]
      have hi : isN z = false := by
        unfold isN okD
        rw [h0]
        rfl
      have k := k H (Same.refl H)
      rw [hi] at k
      exact iteT (iteT k)
    · have e0 : ¬ z = Str.ofString "" := fun e => h0 (by rw [e]; rfl)
      rw [decide_eq_false (show ¬ V.str z = V.str (Str.ofString "") from fun e => e0 (V.str.inj e))]
      refine iteF ?_
      refine ⟨_, rfl, z, rfl, fun D hD => ?_⟩
      refine lc_signs (fun i H' => H' = upd H D (.lst ((badL (z.cps.toList.take i)).map fun c => V.str ⟨#[c]⟩))) rfl ?_ ?_
      · rintro i c H' hc rfl
        rw [← Array.getElem?_toList] at hc
        have hs := bad_step hc
        refine ⟨rfl, _, rfl, c, _, rfl, rfl, _, rfl, ?_⟩
        rw [digits10]
        by_cases hb : (!(decide (48 ≤ c) && decide (c ≤ 57))) = true
        · rw [hb]
          rw [if_pos hb] at hs
          refine iteT ?_
          refine ⟨_, rfl, _, upd_same, ?_, ?_⟩
          · rw [List.length_map]
            refine Nat.lt_of_le_of_lt (List.length_filter_le _ _) ?_
            rw [List.length_take]
            have : z.cps.toList.length ≤ 2200 := by rw [← len_tl]; exact hlen
            exact Nat.lt_of_le_of_lt (Nat.le_trans (Nat.min_le_right _ _) this) (by decide)
          · rw [upd_upd, hs, List.map_append]
            rfl
        · rw [Bool.eq_false_iff.mpr hb]
          rw [if_neg hb, List.append_nil] at hs
          refine iteF ?_
          rw [hs]
      · rintro H' rfl
        have et : z.cps.toList.take z.cps.size = z.cps.toList := List.take_of_length_le (by rw [Array.length_toList]; exact Nat.le_refl _)
        rw [et]
        refine ⟨Nat.zero_le _, fun e hE => ?_⟩
        have sD := same_upd (o := .lst ((badL z.cps.toList).map fun c => V.str ⟨#[c]⟩)) hD
        have sE := same_upd (o := .lst []) hE
        refine ⟨_, .list [], .lst (SqL.of (sE _ _ upd_same)) (dp_strs _), .lst (SqL.of upd_same) .nil, shaped_strs _ (fun c hc => ha c (List.mem_filter.mp hc).1), rfl, ?_⟩
        rw [eqv_strs]
        have k := k _ (sD.trans sE)
        generalize upd (upd H D (.lst ((badL z.cps.toList).map fun c => V.str ⟨#[c]⟩))) e (.lst []) = H2 at k ⊢
        have hok := bad_ok h0
        by_cases hb : badL z.cps.toList = []
        · rw [decide_eq_true hb] at hok ⊢
          refine ⟨_, rfl, iteF ?_⟩
          obtain ⟨c, r, hl⟩ : ∃ c r, z.cps.toList = c :: r := by
            cases hq : z.cps.toList with
            | nil => exact absurd hq h0
            | cons c r => exact ⟨c, r, rfl⟩
          have hi : isN z = (decide (z = Str.ofString "0") || !decide (c = 48)) := by
            unfold isN
            rw [hok, Bool.true_and, hl]
            have e48 : (Str.ofString "0").cps.toList = [48] := by decide +kernel
            have e1 : decide (c :: r = [48]) = decide (z = Str.ofString "0") := decide_eq_decide.mpr ⟨fun h => ext_tl (by show z.cps.toList = _; rw [hl, h]; exact e48.symm), fun h => by
              have : z.cps.toList = [48] := by rw [h]; exact e48
              rw [hl] at this
              exact this⟩
            rw [e1]
            simp
          rw [hi] at k
          refine ⟨_, rfl, rfl, _, rfl, ?_⟩
          by_cases hz0 : z = Str.ofString "0"
          · rw [decide_eq_true hz0] at k
            rw [decide_eq_true (show V.str z = V.str (Str.ofString "0") by rw [hz0])]
            exact iteT k
          · rw [decide_eq_false hz0] at k
            rw [decide_eq_false (show ¬ V.str z = V.str (Str.ofString "0") from fun e => hz0 (V.str.inj e))]
            refine iteF ?_
            have hc0 : z.cps[(0 : Int).toNat]? = some c := by
              rw [← Array.getElem?_toList, hl]
              rfl
            refine ⟨_, rfl, z, 0, c, rfl, rfl, by decide, by decide, ?_, hc0, rfl, ?_⟩
            · rw [len_tl]
              show 0 < (z.cps.toList.length : Int)
              rw [hl, List.length_cons]
              omega
            · have e2 : decide (V.str ⟨#[c]⟩ = V.str (Str.ofString "0")) = decide (c = 48) := by
                refine decide_eq_decide.mpr ⟨fun h => ?_, fun h => by rw [h]; rfl⟩
                have h2 : (⟨#[c]⟩ : Str).cps.toList = (Str.ofString "0").cps.toList := by rw [V.str.inj h]
                rw [show (Str.ofString "0").cps.toList = [48] by decide +kernel] at h2
                exact (List.cons.inj h2).1
              rw [e2]
              exact k
        · rw [decide_eq_false hb] at hok ⊢
          refine ⟨_, rfl, iteT ?_⟩
          have hi : isN z = false := by
            unfold isN
            rw [hok]
            rfl
          rw [hi] at k
          exact k
end
end RT
set_option maxRecDepth 100000
set_option maxHeartbeats 2000000
namespace MX
open PySem PySem.Spec PyProof.Rows L2
open TL NumText
/-- a list of signs cut at every slash -/
theorem parts_of : ∀ l : List Nat, ∃ ps : List (List Nat), ps ≠ [] ∧ (∀ p ∈ ps, 47 ∉ p) ∧ joinL [47] ps = l
  | [] => ⟨[[]], by simp, by simp, rfl⟩
  | c :: r => by
    obtain ⟨ps, h1, h2, h3⟩ := parts_of r
    by_cases hc : c = 47
    · refine ⟨[] :: ps, by simp, fun p hp => ?_, ?_⟩
      · rcases List.mem_cons.mp hp with rfl | hp
        · simp
        · exact h2 p hp
      · cases ps with
        | nil => exact absurd rfl h1
        | cons q r' =>
          show [] ++ ([47] ++ joinL [47] (q :: r')) = _
          rw [h3, hc] <;> rfl
    · cases ps with
      | nil => exact absurd rfl h1
      | cons q r' =>
        refine ⟨(c :: q) :: r', by simp, fun p hp => ?_, ?_⟩
        · rcases List.mem_cons.mp hp with rfl | hp
          · intro h
            rcases List.mem_cons.mp h with h | h
            · exact hc h.symm
            · exact h2 q List.mem_cons_self h
          · exact h2 p (List.mem_cons_of_mem _ hp)
        · cases r' with
          | nil =>
            have h3 : q = r := h3
            show c :: q = _
            rw [h3]
          | cons q2 r2 =>
            have h3 : q ++ ([47] ++ joinL [47] (q2 :: r2)) = r := h3
            show (c :: q) ++ ([47] ++ joinL [47] (q2 :: r2)) = _
            rw [List.cons_append, h3]
theorem split_of (d : Str) : ∃ ps : List Str, ps ≠ [] ∧ (∀ p ∈ ps, 47 ∉ p.cps.toList) ∧ d.cps.toList = joinL [47] (ps.map fun p => p.cps.toList) ∧ Txt.split d (Str.ofString "/") = ps := by
  obtain ⟨ls, h1, h2, h3⟩ := parts_of d.cps.toList
  have hm : (ls.map fun l => (⟨l.toArray⟩ : Str)).map (fun p => p.cps.toList) = ls := by
    rw [List.map_map]
    exact List.map_id' _
  have hj : Str.join (Str.ofString "/") (ls.map fun l => (⟨l.toArray⟩ : Str)) = d := by
    refine ext_tl ?_
    rw [tl_join]
    show joinL (Str.ofString "/").cps.toList ((ls.map fun l => (⟨l.toArray⟩ : Str)).map (fun p => p.cps.toList)) = d.cps.toList
    rw [hm, tl_slash]
    exact h3
  refine ⟨ls.map fun l => ⟨l.toArray⟩, by simpa using h1, fun p hp => ?_, by rw [hm]; exact h3.symm, ?_⟩
  · obtain ⟨l, hl, rfl⟩ := List.mem_map.mp hp
    exact h2 l hl
  · have e := split_join (y := Str.ofString "/") tl_slash (by decide +kernel) (parts := ls.map fun l => (⟨l.toArray⟩ : Str)) (by simpa using h1) (fun p hp => by
      obtain ⟨l, hl, rfl⟩ := List.mem_map.mp hp
      exact h2 l hl)
    rw [join_eq, hj] at e
    exact e
/-- digits without a leading zero are a number's text -/
theorem num_of {z : Str} (hd : AllDigits z.cps.toList) (hne : z.cps.toList ≠ []) (h : z.cps.toList = [48] ∨ z.cps.toList.head? ≠ some 48) : z = tx ((digitsVal z.cps.toList : Nat) : Int) := by
  refine ext_tl ?_
  show z.cps.toList = (tx ((digitsVal z.cps.toList : Nat) : Int)).cps.toList
  rw [tl_tx]
  unfold numL
  rw [toDigits_all _ hd]
  rcases h with h | h
  · rw [h]
    decide
  · cases hl : z.cps.toList with
    | nil => exact absurd hl hne
    | cons c r =>
      rw [hl] at h hd
      have hc : c ≠ 48 := fun e => h (by rw [e]; rfl)
      rw [List.dropWhile_cons, if_neg (by rw [beq_iff_eq]; exact hc)]
      show c :: r = ((c :: r).map Char.ofNat).map Char.toNat
      rw [List.map_map]
      have back : ∀ l : List Nat, AllDigits l → l.map (Char.toNat ∘ Char.ofNat) = l := fun l => by
        induction l with
        | nil => intro _; rfl
        | cons a s ih =>
          intro ha
          have h1 := ha.head
          have e : (Char.ofNat a).toNat = a := by
            have z : ∀ k, k < 10 → (Char.ofNat (48 + k)).toNat = 48 + k := by decide
            have := z (a - 48) (by omega)
            rw [show 48 + (a - 48) = a by omega] at this
            exact this
          rw [List.map_cons, ih ha.tail]
          show (Char.ofNat a).toNat :: s = _
          rw [e]
      exact (back _ hd).symm
end MX
set_option maxRecDepth 100000
set_option maxHeartbeats 1000000
namespace RT
open PySem PySem.Spec PyProof.Rows L2 GL MX ClX TL NumText
abbrev sIst : Stmt := top 23
theorem numL_head {n : Nat} : numL n = [48] ∨ (numL n).head? ≠ some 48 := by
  by_cases h : n < 10
  · rw [numL_lt h]
    by_cases h0 : n = 0
    · exact .inl (by rw [h0])
    · refine .inr fun e => ?_
      have : 48 + n = 48 := Option.some.inj e
      omega
  · refine .inr ?_
    have hgen : ∀ n : Nat, n ≠ 0 → (numL n).head? ≠ some 48 := fun n => by
      induction n using Nat.strongRecOn with
      | _ n ih =>
        intro h0
        by_cases h : n < 10
        · rw [numL_lt h]
          intro e
          have : 48 + n = 48 := Option.some.inj e
          omega
        · rw [numL_step (by omega)]
          have i := ih (n / 10) (by omega) (by omega)
          cases hq : numL (n / 10) with
          | nil => exact absurd hq (numL_ne _)
          | cons c r =>
            rw [hq] at i
            exact i
    exact hgen n (by omega)
theorem isn_tx (n : Nat) : isN (tx (n : Int)) = true := by
  unfold isN
  rw [Bool.and_eq_true]
  refine ⟨okD_iff.mpr ⟨by rw [tl_tx]; exact numL_ne n, by rw [tl_tx]; exact numL_digits n⟩, ?_⟩
  rw [tl_tx]
  rcases numL_head (n := n) with h | h
  · rw [decide_eq_true h] <;> rfl
  · rw [decide_eq_false h]
    simp
theorem isn_of {z : Str} (h : isN z = true) : z = tx ((digitsVal z.cps.toList : Nat) : Int) := by
  unfold isN at h
  rw [Bool.and_eq_true] at h
  obtain ⟨h1, h2⟩ := okD_iff.mp h.1
  refine num_of h2 h1 ?_
  rcases Bool.or_eq_true_iff.mp h.2 with h | h
  · exact .inl (of_decide_eq_true h)
  · exact .inr (of_decide_eq_false (by simpa using h))
/-- what stands behind a sign -/
def digOf (z : Str) : Str := if z.cps.toList.head? = some 45 then ⟨(z.cps.toList.drop 1).toArray⟩ else z
def spIst : Sp := fun vs H Q _ => ∃ z : Str, vs = [.str z] ∧ Asc z ∧ z.length ≤ 2200 ∧ ((∃ t b, Can z t b) → ∀ H', Same H H' → Q (.bl true) H') ∧ ((∀ t b, ¬ Can z t b) → ∀ H', Same H H' → Q (.bl false) H')
theorem cut_one {z : Str} : decide (V.str (cutS z none (some 1)) = V.str (Str.ofString "-")) = decide (z.cps.toList.head? = some 45) := by
  refine decide_eq_decide.mpr ?_
  have e : (cutS z none (some 1)).cps.toList = z.cps.toList.take 1 := by
    unfold cutS
    have h1 : HT.sIx z.length z.length (some 1) = min 1 z.length := by
      have := HT.sIx_nat z.length z.length 1
      simpa using this
    rw [HT.sIx_none, h1]
    show (z.cps.toList.drop 0).take (min 1 z.length - 0) = _
    rw [List.drop_zero, Nat.sub_zero]
    rcases Nat.lt_or_ge z.length 1 with h | h
    · have : z.cps.toList = [] := List.length_eq_zero_iff.mp (by rw [← len_tl]; omega)
      rw [this]
      simp
    · rw [Nat.min_eq_left h]
  constructor
  · intro h
    have h2 : (cutS z none (some 1)).cps.toList = (Str.ofString "-").cps.toList := by rw [V.str.inj h]
    rw [e, tl_minus] at h2
    cases hl : z.cps.toList with
    | nil => rw [hl] at h2; cases h2
    | cons c r =>
      rw [hl] at h2
      have : c = 45 := (List.cons.inj h2).1
      rw [this] <;> rfl
  · intro h
    refine congrArg V.str (ext_tl ?_)
    show (cutS z none (some 1)).cps.toList = (Str.ofString "-").cps.toList
    rw [e, tl_minus]
    cases hl : z.cps.toList with
    | nil => rw [hl] at h; cases h
    | cons c r =>
      rw [hl] at h
      have : c = 45 := Option.some.inj h
      rw [this] <;> rfl
theorem cut_rest {z : Str} : (cutS z (some 1) none).cps.toList = z.cps.toList.drop 1 := by
  unfold cutS
  have h1 : HT.sIx z.length 0 (some 1) = min 1 z.length := by
    have := HT.sIx_nat z.length 0 1
    simpa using this
  rw [HT.sIx_none, h1]
  show (z.cps.toList.drop (min 1 z.length)).take (z.length - min 1 z.length) = _
  have hl : z.length = z.cps.toList.length := len_tl z
  rcases Nat.lt_or_ge z.length 1 with h | h
  · have : z.cps.toList = [] := List.length_eq_zero_iff.mp (by rw [← hl]; omega)
    rw [this]
    simp
  · rw [Nat.min_eq_left h]
    exact List.take_of_length_le (by rw [List.length_drop, ← hl]; exact Nat.le_refl _)
def Sgn (z d : Str) : Prop := (z.cps.toList.head? = some 45 ∧ z.cps.toList = 45 :: d.cps.toList) ∨ (z.cps.toList.head? ≠ some 45 ∧ d = z)
theorem head_num {n : Nat} {l : List Nat} : (numL n ++ l).head? ≠ some 45 := by
  cases hq : numL n with
  | nil => exact absurd hq (numL_ne n)
  | cons c r =>
    intro e
    have h1 : c = 45 := Option.some.inj e
    have := numL_digits n c (by rw [hq]; exact List.mem_cons_self)
    omega
theorem tl_rt {t : Int} {m : Nat} : (rt t (m : Int)).cps.toList = (tx t).cps.toList ++ (if m = 1 then [] else 47 :: numL m) := by
  unfold rt
  by_cases h : m = 1
  · rw [if_pos h, if_pos (by omega), List.append_nil]
  · rw [if_neg h, if_neg (by omega)]
    show tl (tx t ++ Str.ofString "/" ++ tx (m : Int)) = _
    rw [tl_append, tl_append]
    show (tx t).cps.toList ++ (Str.ofString "/").cps.toList ++ (tx (m : Int)).cps.toList = _
    rw [tl_slash, tl_tx, List.append_assoc] <;> rfl
theorem split_num {d : Str} {n m : Nat} (h : d.cps.toList = numL n ++ (if m = 1 then [] else 47 :: numL m)) : Txt.split d (Str.ofString "/") = if m = 1 then [tx (n : Int)] else [tx (n : Int), tx (m : Int)] := by
  have key : ∀ ps : List Str, ps ≠ [] → (∀ p ∈ ps, 47 ∉ tl p) → d = Txt.join (Str.ofString "/") ps → Txt.split d (Str.ofString "/") = ps := fun ps h1 h2 h3 => by
    rw [h3]
    exact split_join tl_slash (by decide +kernel) h1 h2
  by_cases hm : m = 1
  · rw [if_pos hm] at h ⊢
    rw [List.append_nil] at h
    refine key _ (by simp) (fun p hp => ?_) (ext_tl ?_)
    · rw [List.mem_singleton.mp hp]
      exact slash_free
    · rw [join_eq, tl_join]
      show d.cps.toList = (tx (n : Int)).cps.toList
      rw [tl_tx, h]
  · rw [if_neg hm] at h ⊢
    refine key _ (by simp) (fun p hp => ?_) (ext_tl ?_)
    · simp only [List.mem_cons, List.not_mem_nil, or_false] at hp
      rcases hp with rfl | rfl <;> exact slash_free
    · rw [join_eq, tl_join]
      show d.cps.toList = (tx (n : Int)).cps.toList ++ ((Str.ofString "/").cps.toList ++ (tx (m : Int)).cps.toList)
      rw [tl_slash, tl_tx, tl_tx, h] <;> rfl
theorem can_ps {z d : Str} {t b : Int} {ps : List Str} (hc : Can z t b) (hd : Sgn z d) (hs : Txt.split d (Str.ofString "/") = ps) : ∃ n m : Nat, Nat.gcd n m = 1 ∧ 1 ≤ m ∧ (z.cps.toList.head? = some 45 → 0 < n) ∧ ps = (if m = 1 then [tx (n : Int)] else [tx (n : Int), tx (m : Int)]) ∧ d.cps.toList = numL n ++ (if m = 1 then [] else 47 :: numL m) := by
  obtain ⟨hpos, hcop, rfl⟩ := hc
  obtain ⟨m, rfl⟩ : ∃ m : Nat, b = (m : Int) := ⟨b.toNat, by omega⟩
  have fin : ∀ n : Nat, Nat.gcd n m = 1 → ((rt t (m : Int)).cps.toList.head? = some 45 → 0 < n) → d.cps.toList = numL n ++ (if m = 1 then [] else 47 :: numL m) → (∃ n m_1 : Nat, Nat.gcd n m_1 = 1 ∧ 1 ≤ m_1 ∧ ((rt t (m : Int)).cps.toList.head? = some 45 → 0 < n) ∧ ps = (if m_1 = 1 then [tx (n : Int)] else [tx (n : Int), tx (m_1 : Int)]) ∧ d.cps.toList = numL n ++ (if m_1 = 1 then [] else 47 :: numL m_1)) := fun n h1 h2 h3 => ⟨n, m, h1, by omega, h2, by rw [← hs]; exact split_num h3, h3⟩
  have pos : ∀ n : Nat, t = (n : Int) → (∃ n m_1 : Nat, Nat.gcd n m_1 = 1 ∧ 1 ≤ m_1 ∧ ((rt t (m : Int)).cps.toList.head? = some 45 → 0 < n) ∧ ps = (if m_1 = 1 then [tx (n : Int)] else [tx (n : Int), tx (m_1 : Int)]) ∧ d.cps.toList = numL n ++ (if m_1 = 1 then [] else 47 :: numL m_1)) := fun n e => by
    have hz : (rt t (m : Int)).cps.toList = numL n ++ (if m = 1 then [] else 47 :: numL m) := by rw [tl_rt, e, tl_tx]
    have hh : (rt t (m : Int)).cps.toList.head? ≠ some 45 := by rw [hz]; exact head_num
    refine fin n (by rw [e] at hcop; exact hcop) (fun h => absurd h hh) ?_
    rcases hd with ⟨h, _⟩ | ⟨_, h⟩
    · exact absurd h hh
    · rw [h, hz]
  rcases Int.eq_nat_or_neg t with ⟨n, e | e⟩
  · exact pos n e
  · by_cases h0 : n = 0
    · exact pos 0 (by rw [e, h0]; rfl)
    · have hz : (rt t (m : Int)).cps.toList = 45 :: (numL n ++ (if m = 1 then [] else 47 :: numL m)) := by
        rw [tl_rt, e, tl_neg (by omega)] <;> rfl
      refine fin n (by rw [e, Int.natAbs_neg] at hcop; exact hcop) (fun _ => by omega) ?_
      rcases hd with ⟨_, h⟩ | ⟨h, _⟩
      · rw [hz] at h
        exact (List.cons.inj h).2.symm
      · exact absurd (by rw [hz]; rfl) h
/-- .. and back -/
theorem can_of {z d : Str} {n m : Nat} (hd : Sgn z d) (hg : Nat.gcd n m = 1) (hm : 1 ≤ m) (h0 : z.cps.toList.head? = some 45 → 0 < n) (h : d.cps.toList = numL n ++ (if m = 1 then [] else 47 :: numL m)) : ∃ t b, Can z t b := by
  rcases hd with ⟨hh, e⟩ | ⟨_, rfl⟩
  · have hn := h0 hh
    refine ⟨-(n : Int), (m : Int), by omega, by rw [Int.natAbs_neg]; exact hg, ext_tl ?_⟩
    show z.cps.toList = (rt (-(n : Int)) (m : Int)).cps.toList
    rw [tl_rt, tl_neg hn, e, h] <;> rfl
  · refine ⟨(n : Int), (m : Int), by omega, hg, ext_tl ?_⟩
    show d.cps.toList = (rt (n : Int) (m : Int)).cps.toList
    rw [tl_rt, tl_tx, h]
theorem tl_m0 : (Str.ofString "-0").cps.toList = [45, 48] := by decide +kernel
theorem one_iff {z d w : Str} (hd : Sgn z d) (hs : Txt.split d (Str.ofString "/") = [w]) (hj : d.cps.toList = w.cps.toList) (hw : isN w = true) : (∃ t b, Can z t b) ↔ z ≠ Str.ofString "-0" := by
  have ew := isn_of hw
  generalize digitsVal w.cps.toList = n at ew
  subst ew
  rw [tl_tx] at hj
  constructor
  · rintro ⟨t, b, hc⟩ e
    have hh : z.cps.toList.head? = some 45 := by rw [e, tl_m0] <;> rfl
    obtain ⟨n', m, _, _, h0, hp, hl⟩ := can_ps hc hd hs
    have hn := h0 hh
    rcases hd with ⟨_, e2⟩ | ⟨h, _⟩
    · rw [e, tl_m0] at e2
      have e3 : [48] = d.cps.toList := (List.cons.inj e2).2
      have e4 : tx (n : Int) = tx (n' : Int) := by
        by_cases hm : m = 1
        · rw [if_pos hm] at hp
          exact (List.cons.inj hp).1
        · rw [if_neg hm] at hp
          exact (List.cons.inj hp).1
      have e5 : n = n' := by
        have := tx_inj e4
        omega
      rw [← e3] at hj
      have e6 : numL 0 = numL n := by rw [← hj, numL_lt (by decide)]
      have := numL_inj e6
      omega
    · exact absurd hh h
  · intro hz
    refine can_of (n := n) (m := 1) hd (Nat.gcd_one_right n) (Nat.le_refl _) (fun hh => ?_) (by rw [if_pos rfl, List.append_nil]; exact hj)
    refine Nat.pos_of_ne_zero fun h => hz (ext_tl ?_)
    show z.cps.toList = (Str.ofString "-0").cps.toList
    rcases hd with ⟨_, e⟩ | ⟨h', _⟩
    · rw [e, hj, h, numL_lt (by decide), tl_m0]
    · exact absurd hh h'
theorem two_iff {z d w0 w1 : Str} (hd : Sgn z d) (hs : Txt.split d (Str.ofString "/") = [w0, w1]) (hj : d.cps.toList = w0.cps.toList ++ 47 :: w1.cps.toList) (h0 : isN w0 = true) (h1 : isN w1 = true) :
    (∃ t b, Can z t b) ↔ (1 < digitsVal w1.cps.toList ∧ 0 < digitsVal w0.cps.toList ∧ Nat.gcd (digitsVal w0.cps.toList) (digitsVal w1.cps.toList) = 1) := by
  have e0 := isn_of h0
  have e1 := isn_of h1
  have v0 : ∀ j : Nat, digitsVal (tx (j : Int)).cps.toList = j := fun j => by rw [tl_tx, numL_val]
  generalize digitsVal w0.cps.toList = u at e0 ⊢
  generalize digitsVal w1.cps.toList = v at e1 ⊢
  subst e0 e1
  rw [tl_tx, tl_tx] at hj
  constructor
  · rintro ⟨t, b, hc⟩
    obtain ⟨n, m, hg, hm, hp0, hp, hl⟩ := can_ps hc hd hs
    by_cases hm1 : m = 1
    · rw [if_pos hm1] at hp
      exact absurd (congrArg List.length hp) (show ¬ 2 = 1 by decide)
    · rw [if_neg hm1] at hp
      have e3 : tx (u : Int) = tx (n : Int) := (List.cons.inj hp).1
      have e4 : tx (v : Int) = tx (m : Int) := (List.cons.inj (List.cons.inj hp).2).1
      have e5 : u = n := by have := tx_inj e3; omega
      have e6 : v = m := by have := tx_inj e4; omega
      subst e5 e6
      refine ⟨by omega, Nat.pos_of_ne_zero fun h => ?_, hg⟩
      rw [h, Nat.gcd_zero_left] at hg
      exact hm1 hg
  · rintro ⟨h2, h3, hg⟩
    exact can_of hd hg (by omega) (fun _ => h3) (by rw [if_neg (by omega)]; exact hj)
theorem join_mem {c : Nat} : ∀ {ps : List (List Nat)} {p : List Nat}, p ∈ ps → c ∈ p → c ∈ joinL [47] ps
  | [q], p, hp, hc => by
    rw [List.mem_singleton] at hp
    subst hp
    exact hc
  | q :: q2 :: r, p, hp, hc => by
    show c ∈ q ++ ([47] ++ joinL [47] (q2 :: r))
    rcases List.mem_cons.mp hp with rfl | hp
    · exact List.mem_append_left _ hc
    · exact List.mem_append_right _ (List.mem_append_right _ (join_mem hp hc))
theorem join_len : ∀ {ps : List (List Nat)} {p : List Nat}, p ∈ ps → p.length ≤ (joinL [47] ps).length
  | [q], p, hp => by
    rw [List.mem_singleton] at hp
    subst hp
    exact Nat.le_refl _
  | q :: q2 :: r, p, hp => by
    show p.length ≤ (q ++ ([47] ++ joinL [47] (q2 :: r))).length
    rw [List.length_append, List.length_append]
    rcases List.mem_cons.mp hp with rfl | hp
    · omega
    · have := join_len hp
      omega
theorem dp_texts {K : PySem.W.Frag} {H : Hp} : ∀ l : List Str, DpAll K H (l.map V.str) (l.map PyData.str)
  | [] => .nil
  | c :: r => .cons (.str _) (dp_texts r)
theorem shaped_texts (l : List Str) (ha : ∀ y ∈ l, Asc y) : SeqAt.shaped (.list (l.map PyData.str)) = true := by
  have h1 : ∀ l : List Str, (∀ y ∈ l, Asc y) → PyData.canLayAll0 (l.map PyData.str) = true := fun l => by
    induction l with
    | nil => intro _; rfl
    | cons c r ih =>
      intro h
      have hc := h c List.mem_cons_self
      have e : PyData.strOk c = true := by
        unfold PyData.strOk
        rw [← Array.all_toList, List.all_eq_true]
        exact fun d hd => decide_eq_true (Nat.lt_trans (hc d hd) (by decide))
      simp [PyData.canLayAll0, PyData.canLay0, ih (fun d hd => h d (List.mem_cons_of_mem _ hd)), e]
  have h2 : ∀ l : List Str, PyData.depthAll (l.map PyData.str) ≤ 1 := fun l => by
    induction l with
    | nil => simp [PyData.depthAll]
    | cons c r ih => simp [PyData.depthAll, PyData.depth]; omega
  unfold SeqAt.shaped
  rw [Bool.and_eq_true]
  refine ⟨by simp [PyData.canLay0, h1 l ha], decide_eq_true ?_⟩
  have := h2 l
  simp only [PyData.depth]
  omega
theorem eqv_texts (l : List Str) : PyData.eqv (.list (l.map PyData.str)) (.list []) = decide (l = []) := by
  cases l with
  | nil => simp [PyData.eqv, PyData.eqvAll]
  | cons c r => simp [PyData.eqv, PyData.eqvAll]
section
variable {P : Program} {w : World} {K : PySem.W.Frag} {mg : Str → Option Value} {base : Heap} {C CI CP f : Addr} {fd : FuncData}
theorem scIst : FnScope ["text", "digits", "words", "top", "bottom", "word"] ["text"] (defScope sIst) := ⟨rfl, rfl, rfl, by decide +kernel, rfl, by decide +kernel, by decide +kernel⟩
theorem ok_ist {fN fL : Addr} {fdN fdL : FuncData} (F : FnP K "_law_is_text" "_law_is_text" sIst f fd) (T : Txt K mg C) (hND : NoDig K) (hint : mg "int" = none) (gN : mg "_law_is_number" = some (.ref fN)) (FN : FnP K "_law_is_number" "_law_is_number" sIsn fN fdN)
    (gL : mg "_law_lowest" = some (.ref fL)) (FL : FnP K "_law_lowest" "_law_lowest" sLowest fL fdL) : FnOk P w K mg base CX0 2 f fd ["text"] spIst := by
  have GN : FnOk P w K mg base CX0 1 fN fdN ["word"] spIsn := ok_isn FN
  have bN : L2.Binds K fdN ["word"] [] := FN.bindsN fun _ _ _ _ _ _ us hl => match us, hl with | [_], _ => rfl
  have GL' : FnOk P w K mg base CX0 1 fL fdL ["top", "bottom"] spLowest := ok_lowest FL T
  have bL : L2.Binds K fdL ["top", "bottom"] [] := FL.bindsN fun _ _ _ _ _ _ us hl => match us, hl with | [_, _], _ => rfl
  refine F.ok scIst (fun vs H Q E h => ?_) (fun cdv A outer s H vs Q E hr h => ?_)
  · obtain ⟨z, rfl, _⟩ := h
    rfl
  · obtain ⟨z, rfl, ha, hlen, k1, k2⟩ := h
    have nd := scIst.nd
    refine ⟨_, PSs.nox (C8.pss_cut (ps_set (i := 1) nd rfl (Or.inl rfl) (pe_ifExp (pt_cmpR op_eq (pe_slice sl_str (pv 0) po_none (po_some pe_int)) pe_str (nomark _)) (pe_slice sl_str (pv 0) (po_some pe_int) po_none) (pv 0)))
      (pss_cons (ps_set (i := 2) nd rfl (Or.inl rfl) (pe_split (pv 1) pe_str))
      (pss_cons (ps_if (PW.pt (pw_or (pt_cmpR op_gt (pe_callB call_len_seq (by rfl) T.len PySem.boot_len (pa_cons (pv 2) pa_nil)) pe_int (nomark _)) (pw_or1 (pt_cmpR (op_neD hr.units) (pe_lc (own := [("word", 5)]) (g := gName 5) (by rfl) nd (pi_list (pv 2)) (blkOk_by (own := [("word", 5)]) (N := ["text", "digits", "words", "top", "bottom", "word"]) (sc := defScope sIst) (by decide +kernel)) (fun _ _ _ _ _ => pg_name (i := 5) nd rfl (Or.inl rfl)) (fun _ _ _ _ _ => pts_one (pt_not (pt_val (pe_call GN hr rfl gN FN.kp bN .nil pass0 (pa_cons (pv 5) pa_nil))))) (fun _ _ _ _ _ => pv 5)) (pe_lst pa_nil) (nomark _))))) (pss_one (ps_ret pe_bl)) pss_nil)
      (pss_cons (ps_if (pt_cmpR op_eq (pe_callB call_len_seq (by rfl) T.len PySem.boot_len (pa_cons (pv 2) pa_nil)) pe_int (nomark _)) (pss_one (ps_ret (pe_cmpR op_ne (pv 0) pe_str (nomark _)))) pss_nil)
      (pss_cons (ps_par (i := 3) (j := 4) (by rfl) nd rfl rfl (by decide) rfl rfl (pa_cons (pe_callTy (call_int_strW hND) (by rfl) hint (by decide +kernel) (pa_cons (pe_ix ix_list (pv 2) pe_int (fun _ _ => rfl)) pa_nil)) (pa_cons (pe_callTy (call_int_strW hND) (by rfl) hint (by decide +kernel) (pa_cons (pe_ix ix_list (pv 2) pe_int (fun _ _ => rfl)) pa_nil)) pa_nil)) (by rfl))
      (pss_one (ps_ret (pe_and (pe_cmpR op_gt (pv 4) pe_int (nomark _)) (pe_and (pe_cmpR op_gt (pv 3) pe_int (nomark _)) (pe_one (pe_cmpR (op_eqD hr.units) (pe_call GL' hr rfl gL FL.kp bL .nil pass0 (pa_cons (pv 3) (pa_cons (pv 4) pa_nil))) (pe_tup (pa_cons (pv 3) (pa_cons (pv 4) pa_nil))) (nomark _)))))))))))), ?_⟩
    have lz : z.length ≤ sizeLine := by
      rw [sizeLine_eq]
      omega
    refine ⟨fun σ' H' => ∃ d : Str, σ' = [some (.str z), some (.str d), none, none, none, none] ∧ H' = H ∧ ((z.cps.toList.head? = some 45 ∧ z.cps.toList = 45 :: d.cps.toList) ∨ (z.cps.toList.head? ≠ some 45 ∧ d = z)), ?_, ?_⟩
    · refine ⟨_, rfl, _, rfl, z, rfl, lz, rfl, _, rfl, ?_⟩
      rw [cut_one]
      by_cases hh : z.cps.toList.head? = some 45
      · rw [decide_eq_true hh]
        refine iteT ?_
        refine ⟨_, rfl, _, rfl, z, rfl, lz, _, rfl, rfl, .inl ⟨hh, ?_⟩⟩
        rw [cut_rest]
        cases hl : z.cps.toList with
        | nil => rw [hl] at hh; cases hh
        | cons c r =>
          rw [hl] at hh
          have : c = 45 := Option.some.inj hh
          rw [this] <;> rfl
      · rw [decide_eq_false hh]
        exact iteF ⟨_, rfl, z, rfl, rfl, .inr ⟨hh, rfl⟩⟩
    · rintro σ' H' ⟨d, rfl, rfl, hd⟩
      have ad : Asc d := fun c hc => by
        rcases hd with ⟨_, e⟩ | ⟨_, rfl⟩
        · exact ha c (by rw [e]; exact List.mem_cons_of_mem _ hc)
        · exact ha c hc
      have ld : d.length ≤ 2200 := by
        rcases hd with ⟨_, e⟩ | ⟨_, rfl⟩
        · have h1 : z.cps.toList.length ≤ 2200 := by rw [← len_tl]; exact hlen
          rw [e, List.length_cons] at h1
          rw [len_tl]
          show d.cps.toList.length ≤ 2200
          omega
        · exact hlen
      obtain ⟨ps, hne, hfree, hjoin, hsplit⟩ := split_of d
      have pa : ∀ p ∈ ps, Asc p := fun p hp c hc => ad c (by rw [hjoin]; exact join_mem (List.mem_map_of_mem hp) hc)
      have pl : ∀ p ∈ ps, p.length ≤ 2200 := fun p hp => by
        have h1 := join_len (List.mem_map_of_mem (f := fun p : Str => p.cps.toList) hp)
        rw [← hjoin] at h1
        rw [len_tl]
        have h2 : d.cps.toList.length ≤ 2200 := by rw [← len_tl]; exact ld
        exact Nat.le_trans h1 h2
      refine ⟨_, rfl, ⟨_, rfl⟩, _, _, rfl, rfl, by decide +kernel, by rw [sizeLine_eq]; omega, fun p hp => ?_⟩
      rw [hsplit]
      have S1 := same_upd (o := .lst (ps.map V.str)) hp
      have L := upd_same (H := H') (a := p) (o := .lst (ps.map V.str))
      have k1 := fun h H2 (s : Same (upd H' p (.lst (ps.map V.str))) H2) => k1 h H2 (S1.trans s)
      have k2 := fun h H2 (s : Same (upd H' p (.lst (ps.map V.str))) H2) => k2 h H2 (S1.trans s)
      generalize upd H' p (.lst (ps.map V.str)) = H1 at L k1 k2 ⊢
      clear S1 hp
      refine ⟨_, rfl, p, _, rfl, .inl (SqL.of L), _, _, rfl, rfl, _, rfl, ?_⟩
      have fin : ∀ (R : Bool) H2, Same H1 H2 → (R = true ↔ ∃ t b, Can z t b) → Q (.bl R) H2 := fun R H2 s hi => by
        cases R with
        | true => exact k1 (hi.mp rfl) H2 s
        | false => exact k2 (fun t b h => by have := hi.mpr ⟨t, b, h⟩; cases this) H2 s
      clear k1 k2
      rw [List.length_map]
      by_cases hl : 2 < ps.length
      · rw [decide_eq_true (show (2 : Int) < (ps.length : Int) by omega)]
        refine iteT (iteT (fin false H1 (Same.refl _) ⟨(fun h => nomatch h), fun ⟨t, b, hc⟩ => ?_⟩))
        obtain ⟨n, m, _, _, _, hp, _⟩ := can_ps hc hd hsplit
        rw [hp] at hl
        split at hl
        · exact absurd hl (show ¬ 2 < 1 by decide)
        · exact absurd hl (show ¬ 2 < 2 by decide)
      · rw [decide_eq_false (show ¬ (2 : Int) < (ps.length : Int) by omega)]
        refine iteF ?_
        refine ⟨_, rfl, p, rfl, ⟨_, SqL.of L⟩, fun D hD => ?_⟩
        have sD := same_upd (o := .lst []) hD
        refine lc_list (K := K) (a := p) (xs := ps.map V.str) (fun i H' => Same H1 H' ∧ H' D = some (.lst (((ps.take i).filter fun y => !isN y).map V.str))) ⟨sD, upd_same⟩ (fun i H' _ ⟨s, _⟩ => SqL.of (s _ _ L)) ?_ ?_
        · rintro i v H2 hv ⟨s2, hDl⟩
          rw [List.getElem?_map] at hv
          obtain ⟨y, hy, rfl⟩ := Option.map_eq_some_iff.mp hv
          have hym := List.mem_of_getElem? hy
          have ht : (ps.take (i + 1)).filter (fun y => !isN y) = (ps.take i).filter (fun y => !isN y) ++ (if (!isN y) = true then [y] else []) := by
            rw [List.take_succ, hy, List.filter_append]
            congr 1
            show [y].filter _ = _
            simp only [List.filter_cons, List.filter_nil]
          refine ⟨rfl, _, rfl, y, rfl, pa y hym, pl y hym, fun H3 s3 => ⟨_, rfl, ?_⟩⟩
          have hD3 := s3 _ _ hDl
          by_cases hb0 : isN y = false
          · have hb : (!isN y) = true := by rw [hb0] <;> rfl
            rw [hb0]
            rw [if_pos hb] at ht
            refine iteT ⟨_, rfl, _, hD3, ?_, fun b o e => ?_, ?_⟩
            · rw [List.length_map]
              refine Nat.lt_of_le_of_lt (List.length_filter_le _ _) ?_
              rw [List.length_take]
              exact Nat.lt_of_le_of_lt (Nat.le_trans (Nat.min_le_right _ _) (show ps.length ≤ 2 by omega)) (by decide)
            · rw [upd_ne (ne_of_none e hD)]
              exact s3 _ _ (s2 _ _ e)
            · rw [ht, List.map_append]
              exact upd_same
          · have hb1 : isN y = true := by simpa using hb0
            have hb : ¬ (!isN y) = true := by rw [hb1]; decide
            rw [hb1]
            rw [if_neg hb, List.append_nil] at ht
            refine iteF ⟨s2.trans s3, ?_⟩
            rw [ht]
            exact hD3
        · rintro H2 ⟨s2, hDl⟩
          rw [List.length_map, List.take_length] at hDl
          refine ⟨Nat.zero_le _, fun e hE => ?_⟩
          have sE := same_upd (o := .lst []) hE
          refine ⟨_, .list [], .lst (SqL.of (sE _ _ hDl)) (dp_texts _), .lst (SqL.of upd_same) .nil, shaped_texts _ (fun y hy => pa y (List.mem_filter.mp hy).1), rfl, ?_⟩
          rw [eqv_texts]
          have S3 : Same H1 (upd H2 e (.lst [])) := s2.trans sE
          generalize upd H2 e (.lst []) = H3 at S3 ⊢
          by_cases hb : ps.filter (fun y => !isN y) = []
          · rw [decide_eq_true hb]
            refine ⟨_, rfl, iteF ?_⟩
            have hall : ∀ y ∈ ps, isN y = true := fun y hy => by
              have := List.filter_eq_nil_iff.mp hb y hy
              simpa using this
            have L3 := S3 _ _ L
            refine ⟨_, rfl, p, _, rfl, .inl (SqL.of L3), rfl, _, rfl, ?_⟩
            match ps, hne, hl with
            | [w0], _, _ =>
              rw [decide_eq_true (show V.int (([w0].map V.str).length : Nat) = V.int 1 by rfl)]
              refine iteT ⟨_, rfl, rfl, ?_⟩
              refine fin _ H3 S3 ?_
              have hw := one_iff hd hsplit hjoin (hall w0 List.mem_cons_self)
              rw [hw]
              by_cases hz : z = Str.ofString "-0"
              · rw [decide_eq_true (show V.str z = V.str (Str.ofString "-0") by rw [hz])]
                exact ⟨(fun h => nomatch h), fun h => absurd hz h⟩
              · rw [decide_eq_false (show ¬ V.str z = V.str (Str.ofString "-0") from fun e => hz (V.str.inj e))]
                exact ⟨fun _ => hz, fun _ => rfl⟩
            | [w0, w1], _, _ =>
              rw [decide_eq_false (show ¬ V.int (([w0, w1].map V.str).length : Nat) = V.int 1 from fun e => by
                have := V.int.inj e
                exact absurd this (show ¬ (2 : Int) = 1 by decide))]
              refine iteF ?_
              have h0 := hall w0 List.mem_cons_self
              have h1 := hall w1 (List.mem_cons_of_mem _ List.mem_cons_self)
              have ht := two_iff hd hsplit hjoin h0 h1
              have rd : ∀ y : Str, y ∈ [w0, w1] → intText? y = some ((digitsVal y.cps.toList : Nat) : Int) ∧ Bd 8000 ((digitsVal y.cps.toList : Nat) : Int) ∧ y.length ≤ sizeLine := fun y hy => by
                have hk : okD y = true := (Bool.and_eq_true_iff.mp (show (okD y && _) = true from hall y hy)).1
                obtain ⟨o1, o2⟩ := okD_iff.mp hk
                have hly := pl y hy
                refine ⟨intText_digits o2 o1 (by omega), ?_, by rw [sizeLine_eq]; omega⟩
                have h3 := val_lt _ o2
                rw [len_tl] at hly
                exact Nat.lt_of_lt_of_le h3 (Nat.le_trans (Nat.pow_le_pow_right (by decide) (Nat.le_trans hly (by decide))) (by decide +kernel : (10 : Nat) ^ 2400 ≤ 2 ^ 8000))
              obtain ⟨i0, b0, z0⟩ := rd w0 List.mem_cons_self
              obtain ⟨i1, b1, z1⟩ := rd w1 (List.mem_cons_of_mem _ List.mem_cons_self)
              refine ⟨_, rfl, p, _, _, _, rfl, rfl, SqL.of L3, at0, _, _, rfl, i0, z0, _, rfl, p, _, _, _, rfl, rfl, SqL.of L3, at1, _, _, rfl, i1, z1, _, _, rfl, ?_⟩
              generalize digitsVal w0.cps.toList = u at ht b0 ⊢
              generalize digitsVal w1.cps.toList = v at ht b1 ⊢
              refine ⟨_, rfl, _, _, rfl, rfl, _, rfl, ?_⟩
              by_cases c1 : (1 : Int) < (v : Int)
              case neg =>
                rw [decide_eq_false c1]
                exact iteF (fin false H3 S3 ⟨(fun h => nomatch h), fun h => absurd (ht.mp h).1 (by omega)⟩)
              rw [decide_eq_true c1]
              refine iteT ⟨_, rfl, _, _, rfl, rfl, _, rfl, ?_⟩
              by_cases c2 : (0 : Int) < (u : Int)
              case neg =>
                rw [decide_eq_false c2]
                exact iteF (fin false H3 S3 ⟨(fun h => nomatch h), fun h => absurd (ht.mp h).2.1 (by omega)⟩)
              rw [decide_eq_true c2]
              refine iteT ⟨_, rfl, _, rfl, (u : Int), (v : Int), rfl, by omega, b0, b1, fun q H4 s4 hq => ?_⟩
              refine ⟨_, rfl, _, rfl, by show 2 ≤ sizeLine; decide, fun t2 h2 => ?_⟩
              have e2 := same_upd (o := .tup [.int (u : Int), .int (v : Int)]) h2
              refine ⟨_, _, dp_two (e2 _ _ hq), dp_two upd_same, rfl, rfl, ?_⟩
              refine fin _ _ ((S3.trans s4).trans e2) ?_
              rw [ht]
              have ev : PyData.eqv (.tuple [.int (nt (u : Int) (v : Int)), .int (nb (u : Int) (v : Int))]) (.tuple [.int (u : Int), .int (v : Int)]) = true ↔ (nt (u : Int) (v : Int) = u ∧ nb (u : Int) (v : Int) = v) := by
                simp [PyData.eqv, PyData.eqvAll]
              rw [ev]
              constructor
              · rintro ⟨e3, e4⟩
                have hc := cop (a := (u : Int)) (b := (v : Int)) (by omega)
                rw [e3, e4] at hc
                exact ⟨by omega, by omega, hc⟩
              · rintro ⟨_, _, hg⟩
                exact low_self (by omega) hg
            | _ :: _ :: _ :: _, _, h => exact absurd (show 2 < _ by simp) h
          · rw [decide_eq_false hb]
            refine ⟨_, rfl, iteT (fin false H3 S3 ⟨(fun h => nomatch h), fun ⟨t, b, hc⟩ => ?_⟩)⟩
            obtain ⟨n, m, _, _, _, hp, _⟩ := can_ps hc hd hsplit
            refine absurd ?_ hb
            rw [hp]
            split
            · simp [isn_tx]
            · simp [isn_tx]
end
end RT
set_option maxRecDepth 100000
set_option maxHeartbeats 1000000
namespace RT
open PySem PySem.Spec PyProof.Rows L2 GL MX ClX TL NumText
/-- a sign picked from a text -/
def spPickS : Sp := fun vs H Q _ => ∃ (a : Addr) (z : Str), vs = [.ref a, .str z] ∧ Feed H a ∧ 0 < z.length ∧ z.length < 1000 ∧
  ∀ (c : Nat) H', c ∈ z.cps.toList → But a H H' → Feed H' a → Q (.str ⟨#[c]⟩) H'
section
variable {P : Program} {w : World} {K : PySem.W.Frag} {mg : Str → Option Value} {base : Heap} {C f : Addr} {fd : FuncData}
theorem ok_pickS {fT : Addr} {fdT : FuncData} (F : FnP K "_law_pick" "_law_pick" sPick f fd) (T : Txt K mg C) (gT : mg "_law_take" = some (.ref fT)) (FT : FnP K "_law_take" "_law_take" sTake fT fdT) : FnOk P w K mg base CX0 2 f fd ["feed", "some"] spPickS := by
  have GT : FnOk P w K mg base CX0 1 fT fdT ["feed", "many"] spTake := ok_take FT
  have bT : Binds K fdT ["feed", "many"] [] := FT.bindsN fun _ _ _ _ _ _ us hl => match us, hl with | [_, _], _ => rfl
  refine F.ok scPick (fun vs H Q E h => ?_) (fun cdv A outer s H vs Q E hr h => ?_)
  · obtain ⟨a, z, rfl, _⟩ := h
    rfl
  · obtain ⟨a, z, rfl, hF, h0, h9, q⟩ := h
    refine ⟨_, PSs.nox <| pss_one (ps_ret (pe_item_str (pv 1) (pe_call GT hr rfl gT FT.kp bT .nil pass0 (pa_cons (pv 0) (pa_cons (pe_callB call_len_str (by rfl) T.len PySem.boot_len (pa_cons (pv 1) pa_nil)) pa_nil))) (fun _ _ => rfl))), ?_⟩
    have hs : (z.length : Nat) = z.cps.toList.length := len_tl z
    have hL : (1000 : Nat) ≤ sizeLine := by decide
    refine ⟨_, rfl, _, rfl, _, rfl, z, rfl, by omega, a, z.length, rfl, hF, by omega, (by show (z.length : Nat) < 2 ^ 60; omega), fun r H' hr0 hr1 hB hF' => ?_⟩
    obtain ⟨j, rfl⟩ : ∃ j : Nat, r = j := ⟨r.toNat, by omega⟩
    have hj : j < z.cps.toList.length := by omega
    refine ⟨z, j, z.cps.toList[j], rfl, rfl, hr0, by omega, by omega, ?_, q _ _ (List.getElem_mem hj) hB hF'⟩
    rw [← Array.getElem?_toList]
    exact List.getElem?_eq_getElem hj
end
end RT
set_option maxRecDepth 100000
set_option maxHeartbeats 1000000
namespace RT
open PySem PySem.Spec PyProof.Rows L2 GL MX ClX TL NumText
abbrev sChg : Stmt := top 25
/-- an ASCII text of at most n signs -/
def AscN (n : Nat) (z : Str) : Prop := Asc z ∧ z.length ≤ n
theorem AscN.cut {n : Nat} {z : Str} (h : AscN n z) (lo hi : Option Int) : AscN n (cutS z lo hi) := by
  unfold cutS
  refine ⟨fun c hc => h.1 c (List.mem_of_mem_drop (List.mem_of_mem_take hc)), ?_⟩
  rw [len_tl]
  show ((z.cps.toList.drop _).take _).length ≤ n
  have hl : z.length = z.cps.toList.length := len_tl z
  have h2 := h.2
  rw [List.length_take, List.length_drop]
  omega
theorem AscN.app {n m : Nat} {x y : Str} (hx : AscN n x) (hy : AscN m y) : AscN (n + m) (x ++ y) := by
  refine ⟨fun c hc => ?_, ?_⟩
  · rw [Str.cps_append, Array.toList_append] at hc
    rcases List.mem_append.mp hc with h | h
    · exact hx.1 c h
    · exact hy.1 c h
  · rw [PySem.Str.length_append]
    exact Nat.add_le_add hx.2 hy.2
theorem AscN.mono {n m : Nat} {x : Str} (hx : AscN n x) (h : n ≤ m) : AscN m x := ⟨hx.1, Nat.le_trans hx.2 h⟩
def spChg : Sp := fun vs H Q _ => ∃ (a : Addr) (z : Str) (n : Nat), vs = [.ref a, .str z] ∧ Feed H a ∧ AscN n z ∧ n ≤ 1000 ∧ ∀ (y : Str) H', AscN (2 * n + 1) y → But a H H' → Feed H' a → Q (.str y) H'
theorem Feed.fresh {H : Hp} {a p : Addr} {o : HO} (h : Feed H a) (hp : H p = none) : Feed (upd H p o) a := by
  obtain ⟨d, t, e⟩ := h
  exact ⟨d, t, by rw [upd_ne (ne_of_none e hp)]; exact e⟩
theorem Feed.off {H : Hp} {a p : Addr} (h : Feed H a) (hp : H p = none) : p ≠ a := by
  obtain ⟨d, t, e⟩ := h
  exact (ne_of_none e hp).symm
section
variable {P : Program} {w : World} {K : PySem.W.Frag} {mg : Str → Option Value} {base : Heap} {C f : Addr} {fd : FuncData}
theorem scChg : FnScope ["feed", "text", "at", "sign", "left", "right", "some"] ["feed", "text"] (defScope sChg) := ⟨rfl, rfl, rfl, by decide +kernel, rfl, by decide +kernel, by decide +kernel⟩
theorem ok_chg {fT fP : Addr} {fdT fdP : FuncData} (F : FnP K "_law_changed" "_law_changed" sChg f fd) (T : Txt K mg C) (gT : mg "_law_take" = some (.ref fT)) (FT : FnP K "_law_take" "_law_take" sTake fT fdT)
    (gP : mg "_law_pick" = some (.ref fP)) (FP : FnP K "_law_pick" "_law_pick" sPick fP fdP) : FnOk P w K mg base CX0 3 f fd ["feed", "text"] spChg := by
  have GT : FnOk P w K mg base CX0 1 fT fdT ["feed", "many"] spTake := ok_take FT
  have bT : Binds K fdT ["feed", "many"] [] := FT.bindsN fun _ _ _ _ _ _ us hl => match us, hl with | [_, _], _ => rfl
  have GP : FnOk P w K mg base CX0 2 fP fdP ["feed", "some"] spPick := ok_pick FP T gT FT
  have GS : FnOk P w K mg base CX0 2 fP fdP ["feed", "some"] spPickS := ok_pickS FP T gT FT
  have bP : Binds K fdP ["feed", "some"] [] := FP.bindsN fun _ _ _ _ _ _ us hl => match us, hl with | [_, _], _ => rfl
  have nd := scChg.nd
  refine F.ok scChg (fun vs H Q E h => ?_) (fun cdv A outer s H vs Q E hr h => ?_)
  · obtain ⟨a, z, n, rfl, _⟩ := h
    rfl
  · obtain ⟨a, z, n, rfl, hF, hz, hn, q⟩ := h
    refine ⟨_, PSs.nox <| pss_cons (ps_set (i := 2) nd rfl (Or.inl rfl) (pe_call GT (hr.mono (by decide)) rfl gT FT.kp bT .nil pass0 (pa_cons (pv 0) (pa_cons (pe_op op_add (pe_callB call_len_str (by rfl) T.len PySem.boot_len (pa_cons (pv 1) pa_nil)) pe_int) pa_nil))))
      (pss_cons (ps_set (i := 3) nd rfl (Or.inl rfl) (pe_call GS hr rfl gP FP.kp bP .nil pass0 (pa_cons (pv 0) (pa_cons pe_str pa_nil))))
      (pss_cons (ps_par (i := 4) (j := 5) (by rfl) nd rfl rfl (by decide) rfl rfl (pa_cons (pe_slice sl_str (pv 1) po_none (po_some (pv 2))) (pa_cons (pe_slice sl_str (pv 1) (po_some (pe_op op_add (pv 2) pe_int)) po_none) pa_nil)) (by rfl))
      (pss_cons (ps_set (i := 6) nd rfl (Or.inl rfl) (pe_lst (pa_cons (pe_op op_add_str (pe_op op_add_str (pv 4) (pv 3)) (pe_slice sl_str (pv 1) (po_some (pv 2)) po_none)) (pa_cons (pe_op op_add_str (pv 4) (pv 5)) pa_nil))))
      (pss_one (ps_ret (pe_call GP hr rfl gP FP.kp bP .nil pass0 (pa_cons (pv 0) (pa_cons (pe_op op_cat (pv 6) (pe_lst (pa_cons (pe_op op_add_str (pe_op op_add_str (pv 4) (pv 3)) (pv 5)) pa_nil))) pa_nil)))))))), ?_⟩
    have hz2 := hz.2
    have lz : z.length ≤ sizeLine := by
      rw [sizeLine_eq]
      omega
    refine ⟨_, rfl, _, rfl, z, rfl, lz, _, _, rfl, rfl, ?_⟩
    have big : (30000 : Nat) ≤ sizeLine := by
      rw [sizeLine_eq]
      omega
    refine ⟨a, _, rfl, hF, by omega, by omega, fun r H1 hr0 hr1 hB1 hF1 => ?_⟩
    refine ⟨_, rfl, a, _, rfl, hF1, (by decide +kernel), (by decide +kernel), fun c H2 hc hB2 hF2 => ?_⟩
    have hs : AscN 1 (⟨#[c]⟩ : Str) := by
      refine ⟨fun d hd => ?_, Nat.le_refl 1⟩
      have : d = c := by simpa using hd
      rw [this]
      exact (show ∀ x ∈ (Str.ofString "0123456789/- +._eax\n").cps.toList, x < 128 by decide +kernel) c hc
    refine ⟨_, rfl, _, rfl, _, rfl, z, rfl, lz, ?_⟩
    refine ⟨_, rfl, _, rfl, _, _, rfl, rfl, _, rfl, z, rfl, lz, ?_⟩
    refine ⟨_, _, rfl, ?_⟩
    have hL := hz.cut none (some r)
    have hR := hz.cut (some (r + 1)) none
    have hM := hz.cut (some r) none
    generalize cutS z none (some r) = L at hL ⊢
    generalize cutS z (some (r + 1)) none = R at hR ⊢
    have lL := hL.2
    have lR := hR.2
    have lM := hM.2
    have hLS := hL.app hs
    have h1 := (hLS.app hM).mono (show n + 1 + n ≤ 2 * n + 1 by omega)
    have h2 := (hL.app hR).mono (show n + n ≤ 2 * n + 1 by omega)
    have h3 := (hLS.app hR).mono (show n + 1 + n ≤ 2 * n + 1 by omega)
    have ls := hs.2
    have lLS := hLS.2
    refine ⟨_, rfl, _, rfl, L, _, rfl, rfl, (by omega), ?_⟩
    refine ⟨_, rfl, _, rfl, _, rfl, z, rfl, lz, L ++ ⟨#[c]⟩, cutS z (some r) none, rfl, rfl, (by omega), ?_⟩
    refine ⟨_, rfl, _, rfl, L, R, rfl, rfl, (by omega), (by show 2 ≤ sizeLine; omega), fun l hl => ?_⟩
    refine ⟨_, rfl, _, rfl, _, rfl, _, rfl, L, _, rfl, rfl, (by omega), ?_⟩
    refine ⟨_, rfl, L ++ ⟨#[c]⟩, R, rfl, rfl, (by omega), (by show 1 ≤ sizeLine; omega), fun l2 hl2 => ?_⟩
    have ll : l2 ≠ l := fun e => by
      rw [e, upd_same] at hl2
      cases hl2
    refine ⟨l, l2, _, _, rfl, rfl, by rw [upd_ne ll.symm]; exact upd_same, upd_same, (by show 2 + 1 ≤ sizeLine; omega), fun l3 hl3 => ?_⟩
    have f1 := hF2.fresh (o := .lst [.str (L ++ ⟨#[c]⟩ ++ cutS z (some r) none), .str (L ++ R)]) hl
    have f2 := f1.fresh (o := .lst [.str (L ++ ⟨#[c]⟩ ++ R)]) hl2
    refine ⟨a, l3, _, rfl, f2.fresh hl3, f2.off hl3, upd_same, (by show 0 < 3; decide), (by show 3 < 1000; decide), fun v H3 hv hB3 hF3 => ?_⟩
    have hB : But a H H3 := ((((hB1.trans hB2).trans (But.of (same_upd hl))).trans (But.of (same_upd hl2))).trans (But.of (same_upd hl3))).trans hB3
    have hv2 : v = .str (L ++ ⟨#[c]⟩ ++ cutS z (some r) none) ∨ v = .str (L ++ R) ∨ v = .str (L ++ ⟨#[c]⟩ ++ R) := by
      have : v ∈ ([.str (L ++ ⟨#[c]⟩ ++ cutS z (some r) none), .str (L ++ R), .str (L ++ ⟨#[c]⟩ ++ R)] : List V) := hv
      simpa only [List.mem_cons, List.not_mem_nil, or_false] using this
    rcases hv2 with rfl | rfl | rfl
    · exact q _ _ h1 hB hF3
    · exact q _ _ h2 hB hF3
    · exact q _ _ h3 hB hF3
end
end RT
namespace TL
open PySem PySem.Spec PyProof.Rows L2
variable {X : Cx}
/-- repr of a text of plain signs -/
theorem call_repr_str : CallR X (.builtin "repr") (fun xs H Q => ∃ z : Str, xs = [.str z] ∧ (∀ c ∈ z.cps.toList, c < 128) ∧ z.length ≤ 100000 ∧ Q (.str (reprText z)) H) := by
  intro pins s σ H xs us Q I r h
  obtain ⟨z, rfl, ha, hz, q⟩ := h
  obtain ⟨u, rfl, t, rfl⟩ := vals1 r
  have hl := PySem.StrLaws.reprText_len z (fun c hc => Nat.lt_of_lt_of_le (ha c hc) (by decide))
  exact PySem.P.repr_of_str ⟨.str _, H, I.tok _, ⟨_, rfl⟩, q⟩ (by
    rw [sizeLine_eq]
    omega)
/-- a sign, n times -/
theorem op_mulS : OpR X (binaryOp .Mult) (fun x y H Q => ∃ (c n : Nat), x = .str ⟨#[c]⟩ ∧ y = .int n ∧ 2 ≤ n ∧ n < 100000 ∧ Q (.str (Txt.mul ⟨#[c]⟩ n)) H) := by
  intro pins s σ H x y v u Q I rx ry h
  obtain ⟨c, n, rfl, rfl, h2, hn, q⟩ := h
  obtain ⟨t, rfl⟩ := rx
  obtain ⟨t', rfl⟩ := ry
  refine PySem.SB.mul (n := (n : Int)) ⟨?_, fun _ _ => ?_, fun _ _ => ?_⟩ (fun t' k => ⟨.str _, H, I.tok _, ⟨_, rfl⟩, q⟩)
  · rw [decide_eq_false (show ¬ (n : Int) < -(2 ^ 63 : Int) by omega), decide_eq_false (show ¬ (n : Int) ≥ 2 ^ 63 by omega)] <;> rfl
  · show ¬ ((1 : Int) > (2 ^ 63 - 1) / n)
    have : (1 : Int) ≤ (2 ^ 63 - 1) / n := Int.le_ediv_of_mul_le (by omega) (by omega)
    omega
  · show decide (1 * (n : Int).toNat > sizeLine) = false
    refine decide_eq_false ?_
    rw [sizeLine_eq]
    omega
theorem mulS_len (c n : Nat) : (Txt.mul (⟨#[c]⟩ : Str) n).length = n := by
  show (Txt.mul (⟨#[c]⟩ : Str) n).cps.size = n
  rw [← Array.length_toList, mul_one_list, List.length_replicate]
  omega
theorem mulS_all {c n d : Nat} (h : d ∈ (Txt.mul (⟨#[c]⟩ : Str) n).cps.toList) : d = c := by
  rw [mul_one_list] at h
  exact List.eq_of_mem_replicate h
end TL
set_option maxRecDepth 100000
set_option maxHeartbeats 1000000
namespace RT
open PySem PySem.Spec PyProof.Rows L2 GL MX ClX TL NumText
abbrev sLaw : Stmt := top 26
def spLaw (K : PySem.W.Frag) : Sp := fun vs H Q _ => ∃ (a : Addr) (ns : List Int), vs = [.ref a] ∧ SqL K H a (ns.map V.int) ∧ ns.length ≤ 63 ∧ ∀ H', Q (.bl true) H'
def GoodT (v : V) : Prop := ∃ z : Str, v = .str z ∧ AscN 2200 z
def GoodL (xs : List V) : Prop := ∀ v ∈ xs, GoodT v
theorem GoodL.nil : GoodL [] := fun _ h => by cases h
theorem GoodL.cons {v : V} {xs : List V} (h : GoodT v) (k : GoodL xs) : GoodL (v :: xs) := fun u hu => by
  rcases List.mem_cons.mp hu with rfl | hu
  · exact h
  · exact k u hu
theorem GoodL.app {xs ys : List V} (h : GoodL xs) (k : GoodL ys) : GoodL (xs ++ ys) := fun u hu => by
  rcases List.mem_append.mp hu with hu | hu
  · exact h u hu
  · exact k u hu
theorem asc_lit {z : Str} (n : Nat) (h : (z.cps.toList.all (fun c => decide (c < 128)) && decide (z.length ≤ n)) = true) : AscN n z := by
  rw [Bool.and_eq_true, List.all_eq_true] at h
  exact ⟨fun c hc => of_decide_eq_true (h.1 c hc), of_decide_eq_true h.2⟩
theorem asc_mul {c n m : Nat} (hc : c < 128) (h : n ≤ m) : AscN m (Txt.mul (⟨#[c]⟩ : Str) n) :=
  ⟨fun d hd => by rw [mulS_all hd]; exact hc, by rw [mulS_len]; exact h⟩
theorem asc_mul' {c n : Nat} (hc : c < 128) : AscN n (Txt.mul (⟨#[c]⟩ : Str) n) := asc_mul hc (Nat.le_refl n)
theorem asc_lit' {x : String} (h : ((Str.ofString x).cps.toList.all fun c => decide (c < 128)) = true) : AscN (Str.ofString x).length (Str.ofString x) := asc_lit _ (by rw [h, decide_eq_true (Nat.le_refl _)] <;> rfl)
theorem fit {n m : Nat} {x y : Str} (hx : AscN n x) (hy : AscN m y) (h : n + m ≤ 30000) : x.length + y.length ≤ sizeLine := by
  have := hx.2
  have := hy.2
  rw [sizeLine_eq]
  omega
theorem Feed.same {H H' : Hp} {fa : Addr} (hF : Feed H fa) (s : Same H H') : Feed H' fa := by
  obtain ⟨d, t, e⟩ := hF
  exact ⟨d, t, s _ _ e⟩
theorem asc_tx (i : Int) : Asc (tx i) := by
  have nat : ∀ n : Nat, Asc (tx (n : Int)) := fun n c hc => by
    rw [tl_tx] at hc
    have := numL_digits n c hc
    omega
  rcases Int.eq_nat_or_neg i with ⟨n, rfl | rfl⟩
  · exact nat n
  · by_cases h0 : n = 0
    · subst h0
      exact nat 0
    · intro c hc
      rw [tl_neg (by omega)] at hc
      rcases List.mem_cons.mp hc with rfl | hc
      · decide
      · have := numL_digits n c hc
        omega
theorem len22 {i : Int} (h : i.natAbs < 10 ^ 22) : (tx i).length ≤ 23 := by
  have e := int_text_length_le10 (k := 22) (by decide) h
  unfold tx
  rw [PySem.ofString_length]
  exact e
theorem asc_rt {t b : Int} (h1 : t.natAbs < 10 ^ 22) (h2 : b.natAbs < 10 ^ 22) : AscN 50 (rt t b) := by
  unfold rt
  split
  · exact AscN.mono ⟨asc_tx t, len22 h1⟩ (by decide)
  · exact (AscN.app (AscN.app (n := 23) ⟨asc_tx t, len22 h1⟩ (asc_lit' (by decide +kernel))) (m := 23) ⟨asc_tx b, len22 h2⟩).mono (by decide +kernel)
theorem Feed.upd {H : Hp} {a p : Addr} {o : HO} (h : Feed H a) (hp : p ≠ a) : Feed (L2.upd H p o) a := by
  obtain ⟨d, t, e⟩ := h
  exact ⟨d, t, by rw [upd_ne hp.symm]; exact e⟩
/-- the list of texts at l -/
def TXS (H : Hp) (l : Addr) (m : Nat) : Prop := ∃ xs, H l = some (.lst xs) ∧ xs.length ≤ m ∧ GoodL xs
section
variable {P : Program} {w : World} {K : PySem.W.Frag} {mg : Str → Option Value} {base : Heap} {C f : Addr} {fd : FuncData}
theorem scLaw : FnScope ["script", "k", "feed", "texts", "turn", "top", "bottom", "text", "again", "due"] ["script"] (defScope sLaw) := ⟨rfl, rfl, rfl, by decide +kernel, rfl, by decide +kernel, by decide +kernel⟩
theorem ok_law {fFd fP fT fPk fX fCg fIt fTo : Addr} {fdFd fdP fdT fdPk fdX fdCg fdIt fdTo : FuncData} (F : FnP K "law" "law" sLaw f fd) (T : Txt K mg C)
    (gFd : mg "_law_feed" = some (.ref fFd)) (FFd : FnP K "_law_feed" "_law_feed" sFeed fFd fdFd) (gP : mg "_law_pair" = some (.ref fP)) (FP : FnP K "_law_pair" "_law_pair" sPair fP fdP) (GP0 : FnOk P w K mg base CX0 4 fP fdP ["feed"] spPair)
    (gT : mg "_law_take" = some (.ref fT)) (FT : FnP K "_law_take" "_law_take" sTake fT fdT) (gPk : mg "_law_pick" = some (.ref fPk)) (FPk : FnP K "_law_pick" "_law_pick" sPick fPk fdPk)
    (gX : mg "_law_text" = some (.ref fX)) (FX : FnP K "_law_text" "_law_text" sText fX fdX) (GX0 : FnOk P w K mg base CX0 2 fX fdX ["top", "bottom"] spText)
    (gCg : mg "_law_changed" = some (.ref fCg)) (FCg : FnP K "_law_changed" "_law_changed" sChg fCg fdCg)
    (gIt : mg "_law_is_text" = some (.ref fIt)) (FIt : FnP K "_law_is_text" "_law_is_text" sIst fIt fdIt) (GIt0 : FnOk P w K mg base CX0 2 fIt fdIt ["text"] spIst)
    (gTo : mg "_law_told" = some (.ref fTo)) (FTo : FnP K "_law_told" "_law_told" sTold fTo fdTo) (GTo0 : FnOk P w K mg base CX0 6 fTo fdTo ["text"] spTold) :
    FnG P w K mg base 7 f (spLaw K) := by
  have GFd1 : FnOk P w K mg base CX0 1 fFd fdFd ["script", "k"] (spFeed K) := ok_feed FFd T
  have GFd := GFd1.mono (show 1 ≤ 4 by decide)
  have bFd : L2.Binds K fdFd ["script", "k"] [] := FFd.bindsN fun _ _ _ _ _ _ us hl => match us, hl with | [_, _], _ => rfl
  have bP : L2.Binds K fdP ["feed"] [] := FP.bindsN fun _ _ _ _ _ _ us hl => match us, hl with | [_], _ => rfl
  have GPk : FnOk P w K mg base CX0 2 fPk fdPk ["feed", "some"] spPick := ok_pick FPk T gT FT
  have bPk : L2.Binds K fdPk ["feed", "some"] [] := FPk.bindsN fun _ _ _ _ _ _ us hl => match us, hl with | [_, _], _ => rfl
  have GCg : FnOk P w K mg base CX0 3 fCg fdCg ["feed", "text"] spChg := ok_chg FCg T gT FT gPk FPk
  have bCg : L2.Binds K fdCg ["feed", "text"] [] := FCg.bindsN fun _ _ _ _ _ _ us hl => match us, hl with | [_, _], _ => rfl
  have bX : L2.Binds K fdX ["top", "bottom"] [] := FX.bindsN fun _ _ _ _ _ _ us hl => match us, hl with | [_, _], _ => rfl
  have bIt : L2.Binds K fdIt ["text"] [] := FIt.bindsN fun _ _ _ _ _ _ us hl => match us, hl with | [_], _ => rfl
  have bTo : L2.Binds K fdTo ["text"] [] := FTo.bindsN fun _ _ _ _ _ _ us hl => match us, hl with | [_], _ => rfl
  have bF : L2.Binds K fd ["script"] [] := F.bindsN fun _ _ _ _ _ _ us hl => match us, hl with | [_], _ => rfl
  have GP := GP0
  have GX := GX0
  have GIt := GIt0
  have GTo := GTo0
  refine fng_of F scLaw (fun vs H Q E h => ?_) bF (fun cdv A outer s H vs Q hr h => ?_)
  · obtain ⟨a, ns, rfl, _⟩ := h
    rfl
  · obtain ⟨a, ns, rfl, hS, hlen, q⟩ := h
    have r6 : Room 6 _ := hr.rm
    have nd := scLaw.nd
    refine ⟨_, PSs.nox (pss_cons (ps_for PassesOwn.never rfl (pi_range1 (by rfl) T.range (pa_cons (pe_callB (call_max2 rfl) (by rfl) T.max (by decide +kernel) (pa_cons pe_int (pa_cons (pe_callB (call_min2 rfl) (by rfl) T.min (by decide +kernel) (pa_cons pe_int (pa_cons (pe_callB call_len_seq (by rfl) T.len PySem.boot_len (pa_cons (pv 0) pa_nil)) pa_nil))) pa_nil))) pa_nil)) (pg_name (i := 1) nd rfl (Or.inl rfl))
      (pss_cons (ps_set (i := 2) nd rfl (Or.inl rfl) (pe_call GFd (r6.mono (by decide)) rfl gFd FFd.kp bFd .nil pass0 (pa_cons (pv 0) (pa_cons (pv 1) pa_nil))))
      (C8.pss_cut (ps_set (i := 3) nd rfl (Or.inl rfl) (pe_lst (pa_cons pe_str (pa_cons pe_str (pa_cons pe_str (pa_cons pe_str (pa_cons pe_str (pa_cons pe_str (pa_cons pe_str (pa_cons pe_str (pa_cons pe_str (pa_cons pe_str (pa_cons pe_str (pa_cons pe_str (pa_cons pe_str (pa_cons pe_str pa_nil))))))))))))))))
      (C8.pss_cut (ps_set (i := 3) nd rfl (Or.inl rfl) (pe_op op_cat (pv 3) (pe_lst (pa_cons pe_str (pa_cons pe_str (pa_cons pe_str (pa_cons pe_str (pa_cons pe_str (pa_cons pe_str (pa_cons pe_str (pa_cons pe_str (pa_cons pe_str (pa_cons pe_str (pa_cons pe_str (pa_cons pe_str pa_nil)))))))))))))))
      (C8.pss_cut (ps_set (i := 3) nd rfl (Or.inl rfl) (pe_op op_cat (pv 3) (pe_lst (pa_cons pe_str (pa_cons pe_str (pa_cons pe_str (pa_cons pe_str (pa_cons pe_str pa_nil))))))))
      (C8.pss_cut (ps_set (i := 3) nd rfl (Or.inl rfl) (pe_op op_cat (pv 3) (pe_lst (pa_cons (pe_op op_mulS pe_str pe_int) (pa_cons (pe_op op_add_str pe_str (pe_op op_mulS pe_str pe_int)) (pa_cons (pe_op op_add_str pe_str (pe_op op_mulS pe_str pe_int)) (pa_cons (pe_op op_add_str (pe_op op_add_str (pe_op op_mulS pe_str pe_int) pe_str) (pe_op op_mulS pe_str pe_int)) pa_nil)))))))
      (C8.pss_cut (ps_set (i := 3) nd rfl (Or.inl rfl) (pe_op op_cat (pv 3) (pe_lst (pa_cons (pe_op op_mulS pe_str pe_int) (pa_cons (pe_op op_add_str pe_str (pe_op op_mulS pe_str pe_int)) (pa_cons (pe_op op_add_str pe_str (pe_op op_mulS pe_str pe_int)) (pa_cons (pe_op op_add_str (pe_op op_add_str (pe_op op_mulS pe_str pe_int) pe_str) (pe_op op_mulS pe_str pe_int)) (pa_cons (pe_op op_mulS pe_str pe_int) pa_nil))))))))
      (C8.pss_cut (ps_set (i := 3) nd rfl (Or.inl rfl) (pe_op op_cat (pv 3) (pe_lst (pa_cons (pe_op op_add_str (pe_op op_add_str (pe_op op_add_str (pe_op op_add_str (pe_op op_add_str pe_str (pe_op op_mulS pe_str pe_int)) pe_str) pe_str) (pe_op op_mulS pe_str pe_int)) pe_str) (pa_cons (pe_op op_add_str (pe_op op_add_str (pe_op op_mulS pe_str pe_int) pe_str) (pe_op op_mulS pe_str pe_int)) pa_nil)))))
      (pss_cons (ps_for PassesOwn.never rfl (pi_range1 (by rfl) T.range (pa_cons pe_int pa_nil)) (pg_name (i := 4) nd rfl (Or.inl rfl))
      (pss_cons (ps_asg (pe_call GP (r6.mono (by decide)) rfl gP FP.kp bP .nil pass0 (pa_cons (pv 2) pa_nil)) (pg_tup (by rfl) (pgs_cons (pg_name (i := 5) nd rfl (Or.inl rfl)) (pgs_cons (pg_name (i := 6) nd rfl (Or.inl rfl)) pgs_nil))))
      (pss_cons (ps_set (i := 7) nd rfl (Or.inl rfl) (pe_call GX (r6.mono (by decide)) rfl gX FX.kp bX .nil pass0 (pa_cons (pv 5) (pa_cons (pv 6) pa_nil))))
      (pss_cons (ps_for PassesOwn.never rfl (pi_range1 (by rfl) T.range (pa_cons (pe_call GPk (r6.mono (by decide)) rfl gPk FPk.kp bPk .nil pass0 (pa_cons (pv 2) (pa_cons (pe_lst (pa_cons pe_int (pa_cons pe_int (pa_cons pe_int (pa_cons pe_int (pa_cons pe_int pa_nil)))))) pa_nil))) pa_nil)) (pg_name (i := 8) nd rfl (Or.inl rfl))
      (pss_one (ps_set (i := 7) nd rfl (Or.inl rfl) (pe_call GCg (r6.mono (by decide)) rfl gCg FCg.kp bCg .nil pass0 (pa_cons (pv 2) (pa_cons (pv 7) pa_nil))))))
      (pss_one (ps_expr (pe_bm PySem.F.plainAttrs_list PySem.F.slot_list_append PySem.F.type_list_append mt_append (pv 3) (pa_cons (pv 7) pa_nil))))))))
      (pss_one (ps_for PassesOwn.never rfl (pi_list (pv 3)) (pg_name (i := 7) nd rfl (Or.inl rfl))
      (pss_cons (ps_set (i := 9) nd rfl (Or.inl rfl) (pe_ifExp (pt_val (pe_call GIt (r6.mono (by decide)) rfl gIt FIt.kp bIt .nil pass0 (pa_cons (pv 7) pa_nil))) (pv 7) pe_int))
      (pss_one (ps_if (pt_cmpR op_ne (pe_callB (CallR.or call_repr_str SkE.call_repr_int) (by rfl) T.repr (by decide +kernel) (pa_cons (pe_call GTo (r6.mono (by decide)) rfl gTo FTo.kp bTo .nil pass0 (pa_cons (pv 7) pa_nil)) pa_nil)) (pe_callB (CallR.or call_repr_str SkE.call_repr_int) (by rfl) T.repr (by decide +kernel) (pa_cons (pv 9) pa_nil)) (nomark _)) (pss_one (ps_ret pe_bl)) pss_nil))))))))))))))
      (pss_one (ps_ret pe_bl))), ?_⟩
    have big : (30000 : Nat) ≤ sizeLine := by
      rw [sizeLine_eq]
      omega
    refine ⟨_, rfl, a, _, rfl, .inl hS, _, _, rfl, _, _, rfl, _, rfl, ?_, ?_, ?_⟩
    · split <;> split <;> omega
    · rw [List.length_map]
      split <;> split <;> omega
    · rw [List.length_map]
      refine for_range (lo := 0) (fun _ σ H' => Same H H' ∧ ∃ v1 v2 v3 v4 v5 v6 v7 v8 v9 : Option V, σ = [some (.ref a), v1, v2, v3, v4, v5, v6, v7, v8, v9]) ⟨Same.refl _, _, _, _, _, _, _, _, _, _, rfl⟩ ?_ ?_
      · rintro i σ H' hi ⟨hs, v1, v2, v3, v4, v5, v6, v7, v8, v9, rfl⟩
        have hi6 : i < 1000 := by
          revert hi
          split <;> split <;> omega
        refine ⟨_, rfl, _, rfl, a, ns, i, ?_, hs.seq hS, hi6, fun fa H1 hn hs1 hF => ?_⟩
        · show [V.ref a, V.int (0 + (i : Int))] = _
          rw [Int.zero_add]
        have hs2 := hs.trans hs1
        have fr : H fa = none := hs.free hn
        let W : Nat → L2.St → Hp → Prop := fun m σ' H' => Same H H' ∧ Feed H' fa ∧ ∃ (l : Addr) (v1 v4 v5 v6 v7 v8 v9 : Option V), (l ≠ fa ∧ H l = none) ∧ TXS H' l m ∧ σ' = [some (.ref a), v1, some (.ref fa), some (.ref l), v4, v5, v6, v7, v8, v9]
        refine ⟨W 14, ⟨by show 14 ≤ sizeLine; omega, fun l hl => ?_⟩, ?_⟩
        · exact ⟨hs2.trans (same_upd hl), hF.fresh hl, l, _, _, _, _, _, _, _, ⟨hF.off hl, hs2.free hl⟩, ⟨_, upd_same, by show 14 ≤ 14; decide, by
            repeat' first
              | exact GoodL.nil
              | refine GoodL.cons ⟨_, rfl, asc_lit 2200 (by decide +kernel)⟩ ?_⟩, rfl⟩
        rintro σ' H2 ⟨S2, F2, l, u1, u4, u5, u6, u7, u8, u9, nl, ⟨xs, hx, hxl, gx⟩, rfl⟩
        refine ⟨W 26, ⟨_, rfl, by show 12 ≤ sizeLine; omega, fun l2 hl2 => ⟨l, l2, xs, _, rfl, rfl, ?_, upd_same, ?_, fun l3 hl3 => ?_⟩⟩, ?_⟩
        · rw [upd_ne (ne_of_none hx hl2)]
          exact hx
        · show xs.length + 12 ≤ sizeLine
          omega
        · refine ⟨(S2.trans (same_upd hl2)).trans (same_upd hl3), (F2.fresh hl2).fresh hl3, l3, _, _, _, _, _, _, _, ⟨(F2.fresh hl2).off hl3, (S2.trans (same_upd hl2)).free hl3⟩, ⟨_, upd_same, ?_, gx.app ?_⟩, rfl⟩
          · rw [List.length_append]
            show xs.length + 12 ≤ 26
            omega
          · repeat' first
              | exact GoodL.nil
              | refine GoodL.cons ⟨_, rfl, asc_lit 2200 (by decide +kernel)⟩ ?_
        rintro σ' H2 ⟨S2, F2, l, u1, u4, u5, u6, u7, u8, u9, nl, ⟨xs, hx, hxl, gx⟩, rfl⟩
        refine ⟨W 31, ⟨_, rfl, by show 5 ≤ sizeLine; omega, fun l2 hl2 => ⟨l, l2, xs, _, rfl, rfl, ?_, upd_same, ?_, fun l3 hl3 => ?_⟩⟩, ?_⟩
        · rw [upd_ne (ne_of_none hx hl2)]
          exact hx
        · show xs.length + 5 ≤ sizeLine
          omega
        · refine ⟨(S2.trans (same_upd hl2)).trans (same_upd hl3), (F2.fresh hl2).fresh hl3, l3, _, _, _, _, _, _, _, ⟨(F2.fresh hl2).off hl3, (S2.trans (same_upd hl2)).free hl3⟩, ⟨_, upd_same, ?_, gx.app ?_⟩, rfl⟩
          · rw [List.length_append]
            show xs.length + 5 ≤ 31
            omega
          · exact (GoodL.cons ⟨_, rfl, AscN.mono (asc_lit' (by decide +kernel)) (by decide +kernel)⟩ (GoodL.cons ⟨_, rfl, AscN.mono (asc_lit' (by decide +kernel)) (by decide +kernel)⟩ (GoodL.cons ⟨_, rfl, AscN.mono (asc_lit' (by decide +kernel)) (by decide +kernel)⟩ (GoodL.cons ⟨_, rfl, AscN.mono (asc_lit' (by decide +kernel)) (by decide +kernel)⟩ (GoodL.cons ⟨_, rfl, AscN.mono (asc_lit' (by decide +kernel)) (by decide +kernel)⟩ GoodL.nil)))))
        rintro σ' H2 ⟨S2, F2, l, u1, u4, u5, u6, u7, u8, u9, nl, ⟨xs, hx, hxl, gx⟩, rfl⟩
        refine ⟨W 35, ⟨_, rfl, 57, 1000, congrArg V.str (by decide +kernel), rfl, by decide, by decide, 57, 1000, congrArg V.str (by decide +kernel), rfl, by decide, by decide, _, _, rfl, rfl, fit (asc_lit' (by decide +kernel)) (asc_mul' (by decide)) (by decide +kernel), 51, 1000, congrArg V.str (by decide +kernel), rfl, by decide, by decide, _, _, rfl, rfl, fit (asc_lit' (by decide +kernel)) (asc_mul' (by decide)) (by decide +kernel), 55, 1000, congrArg V.str (by decide +kernel), rfl, by decide, by decide, _, _, rfl, rfl, fit (asc_mul' (by decide)) (asc_lit' (by decide +kernel)) (by decide +kernel), 57, 1000, congrArg V.str (by decide +kernel), rfl, by decide, by decide, _, _, rfl, rfl, fit (AscN.app (asc_mul' (by decide)) (asc_lit' (by decide +kernel))) (asc_mul' (by decide)) (by decide +kernel), by show 4 ≤ sizeLine; omega, fun l2 hl2 => ⟨l, l2, xs, _, rfl, rfl, ?_, upd_same, ?_, fun l3 hl3 => ?_⟩⟩, ?_⟩
        · rw [upd_ne (ne_of_none hx hl2)]
          exact hx
        · show xs.length + 4 ≤ sizeLine
          omega
        · refine ⟨(S2.trans (same_upd hl2)).trans (same_upd hl3), (F2.fresh hl2).fresh hl3, l3, _, _, _, _, _, _, _, ⟨(F2.fresh hl2).off hl3, (S2.trans (same_upd hl2)).free hl3⟩, ⟨_, upd_same, ?_, gx.app ?_⟩, rfl⟩
          · rw [List.length_append]
            show xs.length + 4 ≤ 35
            omega
          · exact (GoodL.cons ⟨_, rfl, AscN.mono (asc_mul' (by decide)) (by decide +kernel)⟩ (GoodL.cons ⟨_, rfl, AscN.mono (AscN.app (asc_lit' (by decide +kernel)) (asc_mul' (by decide))) (by decide +kernel)⟩ (GoodL.cons ⟨_, rfl, AscN.mono (AscN.app (asc_lit' (by decide +kernel)) (asc_mul' (by decide))) (by decide +kernel)⟩ (GoodL.cons ⟨_, rfl, AscN.mono (AscN.app (AscN.app (asc_mul' (by decide)) (asc_lit' (by decide +kernel))) (asc_mul' (by decide))) (by decide +kernel)⟩ GoodL.nil))))
        rintro σ' H2 ⟨S2, F2, l, u1, u4, u5, u6, u7, u8, u9, nl, ⟨xs, hx, hxl, gx⟩, rfl⟩
        refine ⟨W 40, ⟨_, rfl, 57, 900, congrArg V.str (by decide +kernel), rfl, by decide, by decide, 57, 900, congrArg V.str (by decide +kernel), rfl, by decide, by decide, _, _, rfl, rfl, fit (asc_lit' (by decide +kernel)) (asc_mul' (by decide)) (by decide +kernel), 51, 900, congrArg V.str (by decide +kernel), rfl, by decide, by decide, _, _, rfl, rfl, fit (asc_lit' (by decide +kernel)) (asc_mul' (by decide)) (by decide +kernel), 50, 900, congrArg V.str (by decide +kernel), rfl, by decide, by decide, _, _, rfl, rfl, fit (asc_mul' (by decide)) (asc_lit' (by decide +kernel)) (by decide +kernel), 50, 901, congrArg V.str (by decide +kernel), rfl, by decide, by decide, _, _, rfl, rfl, fit (AscN.app (asc_mul' (by decide)) (asc_lit' (by decide +kernel))) (asc_mul' (by decide)) (by decide +kernel), 48, 900, congrArg V.str (by decide +kernel), rfl, by decide, by decide, by show 5 ≤ sizeLine; omega, fun l2 hl2 => ⟨l, l2, xs, _, rfl, rfl, ?_, upd_same, ?_, fun l3 hl3 => ?_⟩⟩, ?_⟩
        · rw [upd_ne (ne_of_none hx hl2)]
          exact hx
        · show xs.length + 5 ≤ sizeLine
          omega
        · refine ⟨(S2.trans (same_upd hl2)).trans (same_upd hl3), (F2.fresh hl2).fresh hl3, l3, _, _, _, _, _, _, _, ⟨(F2.fresh hl2).off hl3, (S2.trans (same_upd hl2)).free hl3⟩, ⟨_, upd_same, ?_, gx.app ?_⟩, rfl⟩
          · rw [List.length_append]
            show xs.length + 5 ≤ 40
            omega
          · exact (GoodL.cons ⟨_, rfl, AscN.mono (asc_mul' (by decide)) (by decide +kernel)⟩ (GoodL.cons ⟨_, rfl, AscN.mono (AscN.app (asc_lit' (by decide +kernel)) (asc_mul' (by decide))) (by decide +kernel)⟩ (GoodL.cons ⟨_, rfl, AscN.mono (AscN.app (asc_lit' (by decide +kernel)) (asc_mul' (by decide))) (by decide +kernel)⟩ (GoodL.cons ⟨_, rfl, AscN.mono (AscN.app (AscN.app (asc_mul' (by decide)) (asc_lit' (by decide +kernel))) (asc_mul' (by decide))) (by decide +kernel)⟩ (GoodL.cons ⟨_, rfl, AscN.mono (asc_mul' (by decide)) (by decide +kernel)⟩ GoodL.nil)))))
        rintro σ' H2 ⟨S2, F2, l, u1, u4, u5, u6, u7, u8, u9, nl, ⟨xs, hx, hxl, gx⟩, rfl⟩
        refine ⟨W 42, ⟨_, rfl, 48, 500, congrArg V.str (by decide +kernel), rfl, by decide, by decide, _, _, rfl, rfl, fit (asc_lit' (by decide +kernel)) (asc_mul' (by decide)) (by decide +kernel), _, _, rfl, rfl, fit (AscN.app (asc_lit' (by decide +kernel)) (asc_mul' (by decide))) (asc_lit' (by decide +kernel)) (by decide +kernel), _, _, rfl, rfl, fit (AscN.app (AscN.app (asc_lit' (by decide +kernel)) (asc_mul' (by decide))) (asc_lit' (by decide +kernel))) (asc_lit' (by decide +kernel)) (by decide +kernel), 48, 499, congrArg V.str (by decide +kernel), rfl, by decide, by decide, _, _, rfl, rfl, fit (AscN.app (AscN.app (AscN.app (asc_lit' (by decide +kernel)) (asc_mul' (by decide))) (asc_lit' (by decide +kernel))) (asc_lit' (by decide +kernel))) (asc_mul' (by decide)) (by decide +kernel), _, _, rfl, rfl, fit (AscN.app (AscN.app (AscN.app (AscN.app (asc_lit' (by decide +kernel)) (asc_mul' (by decide))) (asc_lit' (by decide +kernel))) (asc_lit' (by decide +kernel))) (asc_mul' (by decide))) (asc_lit' (by decide +kernel)) (by decide +kernel), 51, 500, congrArg V.str (by decide +kernel), rfl, by decide, by decide, _, _, rfl, rfl, fit (asc_mul' (by decide)) (asc_lit' (by decide +kernel)) (by decide +kernel), 57, 500, congrArg V.str (by decide +kernel), rfl, by decide, by decide, _, _, rfl, rfl, fit (AscN.app (asc_mul' (by decide)) (asc_lit' (by decide +kernel))) (asc_mul' (by decide)) (by decide +kernel), by show 2 ≤ sizeLine; omega, fun l2 hl2 => ⟨l, l2, xs, _, rfl, rfl, ?_, upd_same, ?_, fun l3 hl3 => ?_⟩⟩, ?_⟩
        · rw [upd_ne (ne_of_none hx hl2)]
          exact hx
        · show xs.length + 2 ≤ sizeLine
          omega
        · refine ⟨(S2.trans (same_upd hl2)).trans (same_upd hl3), (F2.fresh hl2).fresh hl3, l3, _, _, _, _, _, _, _, ⟨(F2.fresh hl2).off hl3, (S2.trans (same_upd hl2)).free hl3⟩, ⟨_, upd_same, ?_, gx.app ?_⟩, rfl⟩
          · rw [List.length_append]
            show xs.length + 2 ≤ 42
            omega
          · exact (GoodL.cons ⟨_, rfl, AscN.mono (AscN.app (AscN.app (AscN.app (AscN.app (AscN.app (asc_lit' (by decide +kernel)) (asc_mul' (by decide))) (asc_lit' (by decide +kernel))) (asc_lit' (by decide +kernel))) (asc_mul' (by decide))) (asc_lit' (by decide +kernel))) (by decide +kernel)⟩ (GoodL.cons ⟨_, rfl, AscN.mono (AscN.app (AscN.app (asc_mul' (by decide)) (asc_lit' (by decide +kernel))) (asc_mul' (by decide))) (by decide +kernel)⟩ GoodL.nil))
        rintro σ' H2 ⟨S2, F2, l, u1, u4, u5, u6, u7, u8, u9, nl, ⟨xs, hx, hxl, gx⟩, rfl⟩
        refine ⟨_, rfl, by decide, by decide, ?_⟩
        have hW : ∀ (m m' : Nat) σ H, m ≤ m' → W m σ H → W m' σ H := fun m m' σ H h ⟨x1, x2, l, v1, v4, v5, v6, v7, v8, v9, x3, ⟨xs, x4, x5, x6⟩, x7⟩ => ⟨x1, x2, l, v1, v4, v5, v6, v7, v8, v9, x3, ⟨xs, x4, Nat.le_trans x5 h, x6⟩, x7⟩
        refine for_range (lo := 0) (fun j σ H' => W (42 + j) σ H') ⟨S2, F2, l, u1, u4, u5, u6, u7, u8, u9, nl, ⟨xs, hx, hxl, gx⟩, rfl⟩ ?_ ?_
        · rintro j σ H3 hj ⟨S3, F3, l, u1, u4, u5, u6, u7, u8, u9, nl, ⟨xs, hx, hxl, gx⟩, rfl⟩
          refine ⟨_, rfl, fa, rfl, F3, fun x y p H4 zx zy hy hB4 hF4 hp => ?_⟩
          refine ⟨p, _, rfl, SqT.of hp, rfl, _, _, rfl, _, _, rfl, rfl, ?_⟩
          refine ⟨_, rfl, _, rfl, x, y, rfl, hy, zx.le (by decide), zy.le (by decide), fun H5 s5 => ?_⟩
          have S5 := (hB4.same S3 fr).trans s5
          have F5 := hF4.same s5
          have hx5 := s5 _ _ (hB4 l _ nl.1 hx)
          have b0 : AscN 50 (rt (nt x y) (nb x y)) := asc_rt (Nat.lt_of_lt_of_le (zx.nt hy) (by decide)) (Nat.lt_of_lt_of_le (zy.nb hy) (by decide))
          refine ⟨_, rfl, by show 5 ≤ sizeLine; omega, fun l2 hl2 => ?_⟩
          refine ⟨fa, l2, _, rfl, F5.fresh hl2, F5.off hl2, upd_same, by show 0 < 5; decide, by show 5 < 1000; decide, fun v H6 hv hB6 hF6 => ?_⟩
          have S6 := hB6.same (S5.trans (same_upd hl2)) fr
          have hx6 := hB6 l _ nl.1 (same_upd (o := .lst [.int 0, .int 1, .int 1, .int 2, .int 3]) hl2 _ _ hx5)
          obtain ⟨m, rfl, m0, m3⟩ : ∃ m : Int, v = .int m ∧ 0 ≤ m ∧ m ≤ 3 := by
            simp only [List.mem_cons, List.not_mem_nil, or_false] at hv
            rcases hv with rfl | rfl | rfl | rfl | rfl <;> exact ⟨_, rfl, by decide, by decide⟩
          clear hv hB6 hB4 hF4 hp
          let Z : Nat → L2.St → Hp → Prop := fun t σ' H' => Same H H' ∧ Feed H' fa ∧ ∃ (l : Addr) (z : Str) (v1 v4 v5 v6 v8 v9 : Option V), (l ≠ fa ∧ H l = none) ∧ TXS H' l (42 + j) ∧ AscN (51 * 2 ^ t - 1) z ∧ σ' = [some (.ref a), v1, some (.ref fa), some (.ref l), v4, v5, v6, some (.str z), v8, v9]
          refine ⟨_, rfl, ?_, ?_, ?_⟩
          · omega
          · omega
          refine for_range (lo := 0) (fun t σ' H' => Z t σ' H') ⟨S6, hF6, l, _, _, _, _, _, _, _, nl, ⟨xs, hx6, hxl, gx⟩, b0, rfl⟩ ?_ ?_
          · rintro t σ' H7 ht ⟨S7, F7, l, z, w1, w4, w5, w6, w8, w9, nl, ⟨xs, hx, hxl, gx⟩, hz, rfl⟩
            refine ⟨_, rfl, _, rfl, fa, z, _, rfl, F7, hz, ?_, fun y H8 hy hB8 hF8 => ?_⟩
            · have ht3 : t < 3 := by
                omega
              match t, ht3 with
              | 0, _ => exact (by decide)
              | 1, _ => exact (by decide)
              | 2, _ => exact (by decide)
            · refine ⟨hB8.same S7 fr, hF8, l, y, _, _, _, _, _, _, nl, ⟨xs, hB8 l _ nl.1 hx, hxl, gx⟩, hy.mono ?_, rfl⟩
              have h1 : 1 ≤ 2 ^ t := Nat.one_le_two_pow
              rw [Nat.pow_succ]
              omega
          · rintro σ' H7 ⟨S7, F7, l, z, w1, w4, w5, w6, w8, w9, nl, ⟨xs, hx, hxl, gx⟩, hz, rfl⟩
            have hp : ∀ t : Nat, t < 4 → 51 * 2 ^ t - 1 ≤ 2200 := by decide
            have hz2 : AscN 2200 z := hz.mono (hp _ (by omega))
            refine ⟨_, rfl, .inl ⟨rfl, _, SqL.of hx⟩, _, rfl, l, _, _, rfl, rfl, hx, (by omega), ?_⟩
            refine ⟨fun b o e => ?_, F7.upd nl.1, l, _, _, _, _, _, _, _, nl, ⟨_, upd_same, ?_, gx.app (GoodL.cons ⟨z, rfl, hz2⟩ GoodL.nil)⟩, rfl⟩
            · rw [upd_ne (ne_of_none e nl.2)]
              exact S7 _ _ e
            · rw [List.length_append]
              show _ + 1 ≤ _
              omega
        · rintro σ H3 ⟨S3, F3, l, u1, u4, u5, u6, u7, u8, u9, nl, ⟨xs, hx, hxl, gx⟩, rfl⟩
          refine ⟨_, rfl, l, rfl, ⟨_, SqL.of hx⟩, for_list (K := K) (a := l) (xs := xs) (fun _ σ H' => Same H H' ∧ H' l = some (.lst xs) ∧ ∃ v1 v2 v4 v5 v6 v7 v8 v9 : Option V, σ = [some (.ref a), v1, v2, some (.ref l), v4, v5, v6, v7, v8, v9]) ⟨S3, hx, _, _, _, _, _, _, _, _, rfl⟩ (fun _ _ _ _ p => SqL.of p.2.1) ?_ ?_⟩
          · rintro i x σ H4 hxi ⟨S4, hx4, v1, v2, v4, v5, v6, v7, v8, v9, rfl⟩
            obtain ⟨z, rfl, hz⟩ := gx _ (List.mem_of_getElem? hxi)
            have hz1 := hz.1
            have hz2 := hz.2
            have hz3 : z.length ≤ 100000 := Nat.le_trans hz2 (by decide)
            by_cases hc : ∃ t b, Can z t b
            · refine ⟨_, rfl, z, rfl, hz1, hz2, fun _ H5 s5 => ⟨_, rfl, iteT ⟨_, rfl, ?_⟩⟩, fun hn => (fun H5 s5 => absurd hc (fun ⟨t, b, h⟩ => hn t b h))⟩
              refine ⟨_, rfl, z, rfl, hz1, hz2, fun t b _ H6 s6 => .inl ⟨z, rfl, hz1, hz3, ?_⟩, fun hn => (fun H6 s6 => absurd hc (fun ⟨t, b, h⟩ => hn t b h))⟩
              refine ⟨_, rfl, .inl ⟨z, rfl, hz1, hz3, rfl, _, rfl, ?_⟩⟩
              rw [decide_eq_true rfl]
              exact iteF ⟨(S4.trans s5).trans s6, s6 _ _ (s5 _ _ hx4), _, _, _, _, _, _, _, _, rfl⟩
            · have hn : ∀ t b, ¬ Can z t b := fun t b h => hc ⟨t, b, h⟩
              refine ⟨_, rfl, z, rfl, hz1, hz2, fun h => absurd h hc, fun _ H5 s5 => ⟨_, rfl, iteF ?_⟩⟩
              refine ⟨_, rfl, z, rfl, hz1, hz2, fun t b h => absurd h (hn t b), fun _ H6 s6 => .inr ⟨0, rfl, by decide, ?_⟩⟩
              refine ⟨_, rfl, .inr ⟨0, rfl, by decide, rfl, _, rfl, ?_⟩⟩
              rw [decide_eq_true rfl]
              exact iteF ⟨(S4.trans s5).trans s6, s6 _ _ (s5 _ _ hx4), _, _, _, _, _, _, _, _, rfl⟩
          · rintro σ H4 ⟨S4, hx4, v1, v2, v4, v5, v6, v7, v8, v9, rfl⟩
            exact ⟨S4, _, _, _, _, _, _, _, _, _, rfl⟩
      · rintro σ' H' ⟨hs, v1, v2, v3, v4, v5, v6, v7, v8, v9, rfl⟩
        exact q _
end
end RT
set_option maxRecDepth 100000
set_option maxHeartbeats 0
/-! a head's facts, with a Bool of one's own beside them -/
namespace HX
open PySem PySem.Spec PyProof.Rows L2 GL MX
def eqV (a : Option (Option Value)) (b : Value) : Bool := decide (a = some (some b))
def noV (a : Option (Option Value)) : Bool := decide (a = some none)
def noInB (K : PySem.W.Frag) (C : Addr) (nm : String) : Bool := (PySem.W.clsIn K C).any (fun cd => decide (cd.mro = [.ref C, .type "object"])) && (noV (PySem.W.findIn K (.ref C) (dunderI nm)) && noV (PySem.W.findIn K (.type "object") (dunderI nm)))
theorem noInB_ok {K : PySem.W.Frag} {C : Addr} {nm : String} (h : noInB K C nm = true) : NoIn K C nm := by
  obtain ⟨h1, h2⟩ := He.ba h
  obtain ⟨h3, h4⟩ := He.ba h2
  exact ⟨h1, of_decide_eq_true h3, of_decide_eq_true h4⟩
/-- more of the class at C -/
def moreB (K : PySem.W.Frag) (C : Addr) : Bool := PySem.W.selfFirst K C && (PySem.W.notFirst K C (.ref C) && (eqV (PySem.W.findIn K (.ref C) "__class__") (.builtin "object.__class__") &&
  (eqV (PySem.W.specialIn K (.builtin "object.__class__") "__get__") (.builtin "getset_descriptor.__get__") && (decide (PySem.W.takesIn K (.builtin "object.__class__") = some true) &&
  (decide (PySem.W.mroIn K C (.type "object") = some true) && decide (PySem.W.kitOne K (.ref C) (.ref C) = some true))))))
theorem more_ok {K : PySem.W.Frag} {C : Addr} (cl : Cls K C) (c : moreB K C = true) : PySem.W.selfFirst K C = true ∧ PySem.W.notFirst K C (.ref C) = true ∧ C8.InsC K C := by
  obtain ⟨c1, c⟩ := He.ba c
  obtain ⟨c2, c⟩ := He.ba c
  obtain ⟨c3, c⟩ := He.ba c
  obtain ⟨c4, c⟩ := He.ba c
  obtain ⟨c5, c⟩ := He.ba c
  obtain ⟨c6, c7⟩ := He.ba c
  exact ⟨c1, c2, ⟨cl, of_decide_eq_true c3, of_decide_eq_true c4, of_decide_eq_true c5, of_decide_eq_true c6, of_decide_eq_true c7⟩⟩
/-- gcd and the class Ratio -/
def extraR (K : PySem.W.Frag) : Bool := eqV (PySem.W.nsIn K mainGlobals "gcd") (.builtin "math.gcd") && moreB K (He.ga K "Ratio")
theorem extraR_ok {K : PySem.W.Frag} {h : Heap} {mg : Str → Option Value} (X : K.In h) (G : h.Ns mainGlobals mg) (c : extraR K = true) : mg "gcd" = some (.builtin "math.gcd") ∧ moreB K (He.ga K "Ratio") = true := by
  obtain ⟨c1, c2⟩ := He.ba c
  exact ⟨PySem.W.mg_of X G (of_decide_eq_true c1), c2⟩
/-- an error's class at D, for isinstance -/
def excB (K : PySem.W.Frag) (D : Addr) : Bool := eqV (PySem.W.findIn K (.ref D) "__getattribute__") (.builtin "BaseException.__getattribute__") && (noV (PySem.W.findIn K (.ref D) "__getattr__") && (decide (PySem.W.subIn K (.ref D) (.type "BaseException") = some true) &&
  (PySem.W.hasDictIn K D && (eqV (PySem.W.findIn K (.ref D) "__class__") (.builtin "object.__class__") && (eqV (PySem.W.specialIn K (.builtin "object.__class__") "__get__") (.builtin "getset_descriptor.__get__") &&
  (decide (PySem.W.takesIn K (.builtin "object.__class__") = some true) && decide (PySem.W.mroIn K D (.type "object") = some true)))))))
theorem excB_ok {K : PySem.W.Frag} {D : Addr} (c : excB K D = true) : ExcC K D := by
  obtain ⟨c1, c⟩ := He.ba c
  obtain ⟨c2, c⟩ := He.ba c
  obtain ⟨c3, c⟩ := He.ba c
  obtain ⟨c4, c⟩ := He.ba c
  obtain ⟨c5, c⟩ := He.ba c
  obtain ⟨c6, c⟩ := He.ba c
  obtain ⟨c7, c8⟩ := He.ba c
  exact ⟨of_decide_eq_true c1, of_decide_eq_true c2, of_decide_eq_true c3, c4, of_decide_eq_true c5, of_decide_eq_true c6, of_decide_eq_true c7, of_decide_eq_true c8⟩
/-- isinstance's answer for the classes of two names -/
def kitB2 (K : PySem.W.Frag) (x y : Str) (b : Bool) : Bool := decide (PySem.W.kitOne K (.ref (He.ga K x)) (.ref (He.ga K y)) = some b)
abbrev AlX : Type := Bool × He.AlD
def frX (n : Nat) (g : Addr → Option Obj) : PySem.W.Frag := He.frG g (He.asD g n)
def obsX (ex : PySem.W.Frag → Bool) (n : Nat) (fa : List He.Fa) (fn : List He.DefD) (g : Addr → Option Obj) : AlX := (ex (frX n g), He.obsD fa fn (frX n g))
def hookX (ex : PySem.W.Frag → Bool) (n : Nat) (fa : List He.Fa) (fn : List He.DefD) : PySem.W.Hook where
  α := AlX
  obs := fun s => obsX ex n fa fn s.heap.get?
  val := fun _ => (true, He.valD fn)
  says := fun _ h => ∃ K : PySem.W.Frag, K.In h ∧ ex K = true ∧ He.SaysD fa fn K
  of := fun _ _ e => ⟨_, He.frG_in, congrArg (fun z : AlX => z.1) e, congrArg (fun z : AlX => z.2) e⟩
  keeps := fun _ _ _ ⟨K, hK, c, d⟩ k => ⟨K, PySem.W.Frag.In.keeps hK k, c, d⟩
theorem obsX_eq {ex : PySem.W.Frag → Bool} {n : Nat} {fa : List He.Fa} {fn : List He.DefD} {g : Addr → Option Obj} {s : Shared} (h : ∀ a, g a = s.heap.get? a) : obsX ex n fa fn g = (hookX ex n fa fn).obs s := by
  have e : g = s.heap.get? := funext h
  rw [e] <;> rfl
end HX
set_option maxRecDepth 100000
set_option maxHeartbeats 0
/-! a head's facts, with a Bool of one's own and defs at any address beside them -/
namespace HX
open PySem PySem.Spec PyProof.Rows L2 GL MX
abbrev AlY : Type := Bool × List He5.FnW × He.AlD
def ExY (ex : PySem.W.Frag → Bool) (da : List He5.DefA) (K : PySem.W.Frag) : Prop := (ex K && da.all fun d => d.ok K) = true ∧ (da.map fun d => He5.fnA K (d.at_ K)) = da.map He5.DefA.val
theorem ExY.ex_ {ex : PySem.W.Frag → Bool} {da : List He5.DefA} {K : PySem.W.Frag} (e : ExY ex da K) : ex K = true := (He.ba e.1).1
theorem ExY.def_ {ex : PySem.W.Frag → Bool} {da : List He5.DefA} {K : PySem.W.Frag} (e : ExY ex da K) (i : Nat) {d : He5.DefA} (h : da[i]? = some d := by rfl) : ∃ fd, L2.FunD K d.name d.qual d.params d.body d.scope (d.dvs K) (d.kws K) (d.at_ K) fd := by
  have c2 := (He.ba e.1).2
  have e2 : (da.map fun d => He5.fnA K (d.at_ K))[i]? = (da.map He5.DefA.val)[i]? := by rw [e.2]
  rw [List.getElem?_map, List.getElem?_map, h] at e2
  exact He5.DefA.funD (Option.some.inj e2) (List.all_eq_true.mp c2 d (List.mem_of_getElem? h))
def frY (n : Nat) (g : Addr → Option Obj) : PySem.W.Frag := He.frG g (He5.asA g n)
def obsY (ex : PySem.W.Frag → Bool) (da : List He5.DefA) (n : Nat) (fa : List He.Fa) (fn : List He.DefD) (g : Addr → Option Obj) : AlY :=
  (ex (frY n g) && da.all (fun d => d.ok (frY n g)), da.map (fun d => He5.fnA (frY n g) (d.at_ (frY n g))), He.obsD fa fn (frY n g))
def hookY (ex : PySem.W.Frag → Bool) (da : List He5.DefA) (n : Nat) (fa : List He.Fa) (fn : List He.DefD) : PySem.W.Hook where
  α := AlY
  obs := fun s => obsY ex da n fa fn s.heap.get?
  val := fun _ => (true, da.map He5.DefA.val, He.valD fn)
  says := fun _ h => ∃ K : PySem.W.Frag, K.In h ∧ ExY ex da K ∧ He.SaysD fa fn K
  of := fun _ _ e => ⟨_, He.frG_in, ⟨congrArg (fun z : AlY => z.1) e, congrArg (fun z : AlY => z.2.1) e⟩, congrArg (fun z : AlY => z.2.2) e⟩
  keeps := fun _ _ _ ⟨K, hK, c, d⟩ k => ⟨K, PySem.W.Frag.In.keeps hK k, c, d⟩
theorem obsY_eq {ex : PySem.W.Frag → Bool} {da : List He5.DefA} {n : Nat} {fa : List He.Fa} {fn : List He.DefD} {g : Addr → Option Obj} {s : Shared} (h : ∀ a, g a = s.heap.get? a) : obsY ex da n fa fn g = (hookY ex da n fa fn).obs s := by
  have e : g = s.heap.get? := funext h
  rw [e] <;> rfl
/-- attributes of the class are read, m is a classmethod of it -/
def cmB (K : PySem.W.Frag) (C : Addr) (m : Str) : Bool := PySem.W.readsIn K C (.type "type") && (eqV (PySem.W.specialIn K (.ref C) "__getattribute__") (.builtin "type.__getattribute__") &&
  (He5.wrapB K C "classmethod" "classmethod.__get__" m && PySem.W.fnIn K (He5.wf K C "classmethod" m)))
theorem cmB_ok {K : PySem.W.Frag} {C : Addr} {m : Str} (h : cmB K C m = true) : ClX.CRead K C (.type "type") ∧ ClX.CMet K C (.type "type") m (He.ma K C m) (He5.wf K C "classmethod" m) := by
  obtain ⟨h1, h⟩ := He.ba h
  obtain ⟨h2, h⟩ := He.ba h
  obtain ⟨h3, h4⟩ := He.ba h
  exact ⟨⟨h1, of_decide_eq_true h2⟩, He5.cmet_of h3 h4⟩
def kitT (K : PySem.W.Frag) (x : Str) (n : String) : Bool := decide (PySem.W.kitOne K (.ref (He.ga K x)) (.type n) = some true)
end HX
set_option maxRecDepth 100000
set_option maxHeartbeats 2000000
/-! facts of an own exception's class with its own __init__ -/
namespace HX
open PySem PySem.Spec PyProof.Rows L2 GL MX
def clB (C : Addr) (x : ClassData) : Bool := match x.mro with
  | .ref D :: rest => decide (D = C) && (PySem.HandSPX.refsVE rest && (x.hasDict && !x.hasDel))
  | _ => false
def slB (n : String) (sl : List (Option Value)) : Bool := match sl with
  | [_, _, _, _, some (.builtin m), _] => decide (m = n)
  | _ => false
def obB (C : Addr) (o : Obj) : Bool := match o.data with
  | .cls x => decide (o.cls = .type "type") && (clB C x && slB "ValueError.__new__" o.slots.toList)
  | _ => false
def oexB (K : PySem.W.Frag) (C : Addr) : Bool := (match K.lookup C with
  | some o => obB C o
  | none => false) && (eqV (PySem.W.findIn K (.ref C) "__setattr__") (.builtin "object.__setattr__") && (decide (PySem.W.subIn K (.ref C) (.type "BaseException") = some true) &&
  (decide (PySem.W.typeIn K (.ref C) = some (.type "type")) && PySem.W.keepIn K (.ref C))))
theorem slB_ok {n : String} {sl : Array (Option Value)} (h : slB n sl.toList = true) : ∃ a b c d e, sl = #[a, b, c, d, some (.builtin n), e] := by
  obtain ⟨l⟩ := sl
  unfold slB at h
  split at h
  · rename_i a b c d m e hl
    refine ⟨a, b, c, d, e, ?_⟩
    have hm := of_decide_eq_true h
    subst hm
    have hl : l = _ := hl
    rw [hl]
  · cases h
theorem obB_ok {C : Addr} {o : Obj} (h : obB C o = true) : ∃ nm q N bs bm sn sub ab col dd k0 k1 k2 k3 k5, o = excClassObj nm q C N bs bm true sn sub ab col dd k0 k1 k2 k3 k5 "ValueError.__new__" ∧ PySem.HandSPX.refsVE bm = true := by
  unfold obB at h
  split at h
  · rename_i x hx
    obtain ⟨h1, h⟩ := He.ba h
    obtain ⟨h2, h3⟩ := He.ba h
    have h1 := of_decide_eq_true h1
    obtain ⟨a, b, c, d, e, h8⟩ := slB_ok h3
    clear h3
    unfold clB at h2
    split at h2
    · rename_i D rest hm
      obtain ⟨h4, h2⟩ := He.ba h2
      obtain ⟨h5, h2⟩ := He.ba h2
      obtain ⟨h6, h7⟩ := He.ba h2
      have h4 := of_decide_eq_true h4
      subst h4
      obtain ⟨u1, u2, u3, u4⟩ := o
      obtain ⟨x1, x2, x3, x4, x5, x6, x7, x8, x9, x10, x11⟩ := x
      dsimp only at h1 h8 hx hm h6 h7
      subst h1 h8 hx hm h6
      have h7 : x11 = false := by
        cases x11
        · rfl
        · cases h7
      subst h7
      exact ⟨x1, x5, x4, x2, rest, x7, x8, x9, x10, u2, a, b, c, d, e, rfl, h5⟩
    · cases h2
  · cases h
theorem oexB_ok {K : PySem.W.Frag} {C : Addr} (h : oexB K C = true) : OexC K C := by
  obtain ⟨h1, h⟩ := He.ba h
  obtain ⟨h2, h⟩ := He.ba h
  obtain ⟨h3, h⟩ := He.ba h
  obtain ⟨h4, h5⟩ := He.ba h
  refine ⟨?_, of_decide_eq_true h2, of_decide_eq_true h3, of_decide_eq_true h4, h5⟩
  cases e : K.lookup C with
  | none =>
    rw [e] at h1
    cases h1
  | some o =>
    rw [e] at h1
    obtain ⟨nm, q, N, bs, bm, sn, sub, ab, col, dd, k0, k1, k2, k3, k5, rfl, h⟩ := obB_ok h1
    exact ⟨nm, q, N, bs, bm, sn, sub, ab, col, dd, k0, k1, k2, k3, k5, rfl, h⟩
/-- the class X's own __init__ -/
def iniB (K : PySem.W.Frag) (C : Addr) : Bool := eqV (PySem.W.findIn K (.ref C) "__init__") (.ref (He.ma K C "__init__")) && decide (PySem.W.typeIn K (.ref (He.ma K C "__init__")) = some (.type "function"))
theorem iniB_ok {K : PySem.W.Frag} {C : Addr} (h : iniB K C = true) : PySem.W.findIn K (.ref C) "__init__" = some (some (.ref (He.ma K C "__init__"))) ∧ PySem.W.typeIn K (.ref (He.ma K C "__init__")) = some (.type "function") := by
  obtain ⟨h1, h2⟩ := He.ba h
  exact ⟨of_decide_eq_true h1, of_decide_eq_true h2⟩
def noDigB (K : PySem.W.Frag) : Bool := noV (PySem.W.nsIn K cStatics "sys.int_max_str_digits")
theorem noDigB_ok {K : PySem.W.Frag} (h : noDigB K = true) : NoDig K := (of_decide_eq_true h : PySem.W.nsIn K cStatics "sys.int_max_str_digits" = some none)
end HX
set_option maxRecDepth 100000
set_option maxHeartbeats 0
namespace RH
open PySem PySem.Spec PyProof.Rows L2 GL MX RT HX
def ex (K : PySem.W.Frag) : Bool := extraR K && (noDigB K && (oexB K (He.ga K "InvalidText") && (excB K (He.ga K "InvalidText") && (xfB K (He.ga K "InvalidText") && (iniB K (He.ga K "InvalidText") && (noV (PySem.W.findIn K (.ref (He.ga K "InvalidText")) "row") && (kitB2 K "InvalidText" "InvalidText" true && (kitT K "InvalidText" "ValueError" && cmB K (He.ga K "Ratio") "parse"))))))))
abbrev daParse : He5.DefA := ⟨fun K => He5.wf K (He.ga K "Ratio") "classmethod" "parse", "parse", "Ratio.parse", defArgs sParse, defBody sParse, defScope sParse, [], []⟩
def da : List He5.DefA := [daParse]
def df (x : Str) (st : Stmt) : He.DefD := ⟨(x, none), x, x, defArgs st, defBody st, defScope st, [], []⟩
def dm (m q : Str) (st : Stmt) : He.DefD := ⟨("Ratio", some m), m, q, defArgs st, defBody st, defScope st, [], []⟩
def dmc (C m q : Str) (st : Stmt) : He.DefD := ⟨(C, some m), m, q, defArgs st, defBody st, defScope st, [], []⟩
def fn : List He.DefD := [dmc "InvalidText" "__init__" "InvalidText.__init__" sIT, dm "__init__" "Ratio.__init__" sInit, dm "__str__" "Ratio.__str__" sStr, df "_are_digits" sAre, df "_number" sNum, df "_digits" sDig, df "_law_feed" sFeed, df "_law_take" sTake, df "_law_pick" sPick, df "_law_integer" sInteger, df "_law_pair" sPair, df "_law_lowest" sLowest, df "_law_text" sText, df "_law_is_number" sIsn, df "_law_is_text" sIst, df "_law_told" sTold, df "_law_changed" sChg, df "law" sLaw]
def fa : List He.Fa := [.glo "Ratio", .cls "Ratio", .mkr "Ratio", .noat "Ratio" "top", .noat "Ratio" "bottom", .int "_BLOCK" Bk, .int "_BLOCK_DIGITS" 600, .free "len", .free "abs", .free "max", .free "min", .free "isinstance", .free "str", .free "repr", .free "range", .free "int", .free "divmod", .free "ValueError", .glo "InvalidText", .glo "PartError", .exm "InvalidText" "PartError" true, .meth "Ratio" "__str__", .glo "_are_digits", .glo "_number", .glo "_digits", .glo "_law_feed", .glo "_law_take", .glo "_law_pick", .glo "_law_integer", .glo "_law_pair", .glo "_law_lowest", .glo "_law_text", .glo "_law_is_number", .glo "_law_is_text", .glo "_law_told", .glo "_law_changed", .glo "law"]
abbrev R : PySem.W.OpenRow := PySem.W.OpenLaw.row PySem.Challenge.rw_foldparts_k04_texts_of_ratios
abbrev hk : PySem.W.Hook := hookY ex da 6 fa fn
abbrev qv : Program := PySem.W.view R.prog [0, 26]
def names : List PySem.Str := ["_wall", "PartError", "InvalidText", "ZeroDenominator", "_BLOCK_DIGITS", "_BLOCK", "Ratio", "_are_digits", "_number", "_digits", "_law_feed", "_law_take", "_law_pick", "_law_integer", "_law_pair", "_law_lowest", "_law_text", "_law_is", "_law_is_number", "_law_is_text", "_law_told", "_law_changed"]
def ob (s : PySem.W.SharedT) : AlY := obsY ex da 6 fa fn (HandSHeadRun.getT s)
theorem ob_eq (s : PySem.W.SharedT) : ob s = hk.obs s.abs := obsY_eq (HandSHeadRun.getT_eq s)
theorem run (w : World) : HandSHeadRun.RunEqI R qv hk ob 8000 names w := by
  unfold HandSHeadRun.RunEqI
  kernel_rfl
theorem facts {P : Program} {w : World} {K : PySem.W.Frag} {h : Heap} {mg : Str → Option Value} {f : Addr} (X : K.In h) (G : h.Ns mainGlobals mg) (hfa : mg ("law" : Str) = some (.ref f)) (e : ExY ex da K) (c : He.SaysD fa fn K) :
    ∀ base : Heap, K.In base → base.Ns mainGlobals mg → FnG P w K mg base 7 f (spLaw K) := by
  intro base KB GB
  have f_cls_Ratio := He.cls_ok (c.fact 1 (f := .cls "Ratio") rfl)
  have f_mkr_Ratio := He.mkr_ok (c.fact 2 (f := .mkr "Ratio") rfl)
  have f_noat_top := He.noat_ok (c.fact 3 (f := .noat "Ratio" "top") rfl)
  have f_noat_bottom := He.noat_ok (c.fact 4 (f := .noat "Ratio" "bottom") rfl)
  have f_int__BLOCK := He.int_ok X G (c.fact 5 (f := .int "_BLOCK" Bk) rfl)
  have f_int__BLOCK_DIGITS := He.int_ok X G (c.fact 6 (f := .int "_BLOCK_DIGITS" 600) rfl)
  have f_free_len := He.free_ok X G (c.fact 7 (f := .free "len") rfl)
  have f_free_abs := He.free_ok X G (c.fact 8 (f := .free "abs") rfl)
  have f_free_max := He.free_ok X G (c.fact 9 (f := .free "max") rfl)
  have f_free_min := He.free_ok X G (c.fact 10 (f := .free "min") rfl)
  have f_free_isinstance := He.free_ok X G (c.fact 11 (f := .free "isinstance") rfl)
  have f_free_str := He.free_ok X G (c.fact 12 (f := .free "str") rfl)
  have f_free_repr := He.free_ok X G (c.fact 13 (f := .free "repr") rfl)
  have f_free_range := He.free_ok X G (c.fact 14 (f := .free "range") rfl)
  have f_free_int := He.free_ok X G (c.fact 15 (f := .free "int") rfl)
  have f_free_divmod := He.free_ok X G (c.fact 16 (f := .free "divmod") rfl)
  have f_free_ValueError := He.free_ok X G (c.fact 17 (f := .free "ValueError") rfl)
  have f_exm_InvalidText_PartError := He.exm_ok (c.fact 20 (f := .exm "InvalidText" "PartError" true) rfl)
  have gC_Ratio := He.glo_ok X G (c.fact 0 (f := .glo "Ratio") rfl)
  have gC_InvalidText := He.glo_ok X G (c.fact 18 (f := .glo "InvalidText") rfl)
  have gC_PartError := He.glo_ok X G (c.fact 19 (f := .glo "PartError") rfl)
  obtain ⟨fd_InvalidText_init, F_InvalidText_init⟩ := c.def_ 0 (d := dmc "InvalidText" "__init__" "InvalidText.__init__" sIT) rfl
  obtain ⟨fd_init, F_init⟩ := c.def_ 1 (d := dm "__init__" "Ratio.__init__" sInit) rfl
  obtain ⟨fd_str, F_str⟩ := c.def_ 2 (d := dm "__str__" "Ratio.__str__" sStr) rfl
  have m_str := He.meth_ok (c.fact 21 (f := .meth "Ratio" "__str__") rfl)
  obtain ⟨fd_are_digits, F_are_digits⟩ := c.def_ 3 (d := df "_are_digits" sAre) rfl
  have g_are_digits := He.glo_ok X G (c.fact 22 (f := .glo "_are_digits") rfl)
  obtain ⟨fd_number, F_number⟩ := c.def_ 4 (d := df "_number" sNum) rfl
  have g_number := He.glo_ok X G (c.fact 23 (f := .glo "_number") rfl)
  obtain ⟨fd_digits, F_digits⟩ := c.def_ 5 (d := df "_digits" sDig) rfl
  have g_digits := He.glo_ok X G (c.fact 24 (f := .glo "_digits") rfl)
  obtain ⟨fd_law_feed, F_law_feed⟩ := c.def_ 6 (d := df "_law_feed" sFeed) rfl
  have g_law_feed := He.glo_ok X G (c.fact 25 (f := .glo "_law_feed") rfl)
  obtain ⟨fd_law_take, F_law_take⟩ := c.def_ 7 (d := df "_law_take" sTake) rfl
  have g_law_take := He.glo_ok X G (c.fact 26 (f := .glo "_law_take") rfl)
  obtain ⟨fd_law_pick, F_law_pick⟩ := c.def_ 8 (d := df "_law_pick" sPick) rfl
  have g_law_pick := He.glo_ok X G (c.fact 27 (f := .glo "_law_pick") rfl)
  obtain ⟨fd_law_integer, F_law_integer⟩ := c.def_ 9 (d := df "_law_integer" sInteger) rfl
  have g_law_integer := He.glo_ok X G (c.fact 28 (f := .glo "_law_integer") rfl)
  obtain ⟨fd_law_pair, F_law_pair⟩ := c.def_ 10 (d := df "_law_pair" sPair) rfl
  have g_law_pair := He.glo_ok X G (c.fact 29 (f := .glo "_law_pair") rfl)
  obtain ⟨fd_law_lowest, F_law_lowest⟩ := c.def_ 11 (d := df "_law_lowest" sLowest) rfl
  have g_law_lowest := He.glo_ok X G (c.fact 30 (f := .glo "_law_lowest") rfl)
  obtain ⟨fd_law_text, F_law_text⟩ := c.def_ 12 (d := df "_law_text" sText) rfl
  have g_law_text := He.glo_ok X G (c.fact 31 (f := .glo "_law_text") rfl)
  obtain ⟨fd_law_is_number, F_law_is_number⟩ := c.def_ 13 (d := df "_law_is_number" sIsn) rfl
  have g_law_is_number := He.glo_ok X G (c.fact 32 (f := .glo "_law_is_number") rfl)
  obtain ⟨fd_law_is_text, F_law_is_text⟩ := c.def_ 14 (d := df "_law_is_text" sIst) rfl
  have g_law_is_text := He.glo_ok X G (c.fact 33 (f := .glo "_law_is_text") rfl)
  obtain ⟨fd_law_told, F_law_told⟩ := c.def_ 15 (d := df "_law_told" sTold) rfl
  have g_law_told := He.glo_ok X G (c.fact 34 (f := .glo "_law_told") rfl)
  obtain ⟨fd_law_changed, F_law_changed⟩ := c.def_ 16 (d := df "_law_changed" sChg) rfl
  have g_law_changed := He.glo_ok X G (c.fact 35 (f := .glo "_law_changed") rfl)
  obtain ⟨fd_law, F_law⟩ := c.def_ 17 (d := df "law" sLaw) rfl
  have g_law := He.glo_ok X G (c.fact 36 (f := .glo "law") rfl)
  obtain ⟨fd_parse, F_parse⟩ := e.def_ 0 (d := daParse) rfl
  have ee := e.ex_
  obtain ⟨x1, x2⟩ := extraR_ok X G ((He.ba ee).1)
  obtain ⟨y1, y2, y3⟩ := more_ok f_cls_Ratio x2
  have T : Txt K mg (He.ga K "Ratio") := ⟨f_cls_Ratio, f_noat_top, f_noat_bottom, gC_Ratio, x1, f_int__BLOCK, f_free_len, f_free_abs, f_free_max, f_free_min, f_free_isinstance, f_free_str, f_free_repr, f_free_range, y1, y2, y3⟩
  have M := f_mkr_Ratio
  obtain ⟨w1, ww⟩ := He.ba (He.ba ee).2
  obtain ⟨w2, ww⟩ := He.ba ww
  obtain ⟨w3, ww⟩ := He.ba ww
  obtain ⟨w4, ww⟩ := He.ba ww
  obtain ⟨w5, ww⟩ := He.ba ww
  obtain ⟨w6, ww⟩ := He.ba ww
  obtain ⟨w7, ww⟩ := He.ba ww
  obtain ⟨w8, w9⟩ := He.ba ww
  obtain ⟨hR, hM⟩ := cmB_ok w9
  have hND := noDigB_ok w1
  have OX := oexB_ok w2
  have XI := excB_ok w3
  have XF := xfB_ok w4
  obtain ⟨iC, tI⟩ := iniB_ok w5
  have hno : PySem.W.findIn K (.ref (He.ga K "InvalidText")) "row" = some none := of_decide_eq_true w6
  have iI : PySem.W.kitOne K (.ref (He.ga K "InvalidText")) (.ref (He.ga K "InvalidText")) = some true := of_decide_eq_true w7
  have iV : PySem.W.kitOne K (.ref (He.ga K "InvalidText")) (.type "ValueError") = some true := of_decide_eq_true w8
  have ef := hfa.symm.trans g_law
  cases ef
  have GDi : FnOk P w K mg base CX0 1 _ fd_digits ["number"] spDigW := ok_digW F_digits T hND f_int__BLOCK_DIGITS f_free_divmod
  have GSt : FnOk P w K mg base CX0 2 _ fd_str ["self"] (spStrW (He.ga K "Ratio")) := ok_strW F_str T g_digits F_digits GDi
  have GNu : FnOk P w K mg base CX0 1 _ fd_number ["digits"] spNumW := ok_numW F_number T f_int__BLOCK_DIGITS f_free_int
  have GPq : FnOk P w K mg base (L2.CX P w) 5 _ fd_parse ["cls", "text"] (spParW (He.ga K "Ratio") (He.ga K "InvalidText")) := ok_parW F_parse T M F_init g_are_digits F_are_digits g_number F_number GNu m_str F_str GSt OX hno gC_InvalidText iC tI F_InvalidText_init
  have GTo : FnOk P w K mg base CX0 6 _ fd_law_told ["text"] spTold := ok_told F_law_told T m_str F_str GSt hR hM F_parse GPq gC_PartError gC_InvalidText f_exm_InvalidText_PartError XI XF hno iI iV f_free_ValueError
  have GIs : FnOk P w K mg base CX0 2 _ fd_law_is_text ["text"] spIst := ok_ist F_law_is_text T hND f_free_int g_law_is_number F_law_is_number g_law_lowest F_law_lowest
  have GIn : FnOk P w K mg base CX0 3 _ fd_law_integer ["feed"] spInteger := ok_integer F_law_integer T g_law_take F_law_take g_law_pick F_law_pick
  have GPa : FnOk P w K mg base CX0 4 _ fd_law_pair ["feed"] spPair := ok_pair F_law_pair g_law_integer F_law_integer GIn
  have GTx : FnOk P w K mg base CX0 2 _ fd_law_text ["top", "bottom"] spText := ok_text F_law_text T g_law_lowest F_law_lowest
  exact ok_law F_law T g_law_feed F_law_feed g_law_pair F_law_pair GPa g_law_take F_law_take g_law_pick F_law_pick g_law_text F_law_text GTx g_law_changed F_law_changed g_law_is_text F_law_is_text GIs g_law_told F_law_told GTo
end RH
open PySem PySem.W PySem.Calls PyProof.Rows
set_option maxRecDepth 100000 in
set_option maxHeartbeats 0 in
theorem PySem.Challenge.cw_foldparts_k04_texts_of_ratios_holds : PySem.Challenge.rw_foldparts_k04_texts_of_ratios.Holds := by
  w_on; o_law
  refine HandSHeadRun.head_imp (r := OpenLaw.row PySem.Challenge.rw_foldparts_k04_texts_of_ratios) (q := RH.qv) (H := RH.hk) (ob := RH.ob) (M := 8000) (loose := RH.names) (d := HandSHeadRun.topDef (OpenLaw.row PySem.Challenge.rw_foldparts_k04_texts_of_ratios).prog 26) (kwd := []) RH.ob_eq
    RH.run (by kernel_rfl) (by kernel_rfl) (by kernel_rfl) (by rfl) (by first | assumption | decide +kernel) (by decide +kernel) ⟨rfl, rfl, rfl, rfl, rfl, by decide +kernel⟩ ?hw ?hc
  case hw => w_witness2
  case hc =>
    refine GL.walk_G (l := PySem.Challenge.rw_foldparts_k04_texts_of_ratios) (n := 63) (k := 7) rfl (by decide) (by kernel_rfl) (GL.rg_caller.le (by decide)) ?F
    intro w mg fa h Y G hmg0
    obtain ⟨K, KX, e, c⟩ := Y
    have hmg : mg ("law" : PySem.Str) = some (.ref fa) := by
      have e : (HandSHeadRun.topDef (OpenLaw.row PySem.Challenge.rw_foldparts_k04_texts_of_ratios).prog 26).name = ("law" : PySem.Str) := by kernel_rfl
      rw [← e]
      exact hmg0
    exact ⟨K, RT.spLaw K, KX, fun H a ns hl _ hS => ⟨a, ns, rfl, hS, hl, fun _ => rfl⟩, RH.facts KX G hmg e c⟩

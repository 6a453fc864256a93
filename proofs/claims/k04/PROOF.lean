import PyProof.Rows.All
import Wide.All
import OpenK.AllK
import Wide.FinOn
import PyProof.EqAt
import PyProof.EqKinds
import PyProof.TupleCall
import PyProof.ReprRoads
import HandS.ForMost
import HandS.Exc
import HandS.ExcOwn
import HandS.WordsExc
import HandS.TryOnly
import HandS.TryMany
import HandS.IsInst
import HandS.DictComp
import HandS.Style
import HandS.Evl
import HandS.Walk
import HandS.More
import HandS.Conv
import HandS.Small
import PyProof.StrOps2
import HandS.Zip0
import HandS.Zip
import HandS.Star
import HandS.DeepEq
import KE.KDictCopyH
import PySem.Challenge.RW_latewise_k04_known_systems
set_option Elab.async false
set_option linter.all false
set_option maxRecDepth 100000
set_option maxHeartbeats 3000000
namespace HX
open PySem PySem.Spec PyProof.Rows L2

/-! ### defs that may ask for repr: nothing is being shown when they are called -/
/-- as a def's promise, but said only of calls around which nothing is being shown -/
structure FnG (P : Program) (w : World) (K : PySem.W.Frag) (mg : Str → Option Value) (base : Heap) (CX : CXT) (k : Nat) (f : Addr) (fd : FuncData) (ps : List Str) (sp : Sp) : Prop where
  arity : ∀ vs H Q E, sp vs H Q E → List.length vs = List.length ps
  goes : ∀ {A : Around} {outer : List Env} {s : Shared} {H : Hp} {args : Args} {us : List Value} {vs : List V} {Q : VK} {E : XK}, Room k A → A.guards = some [] → Env0 P w K mg base A outer s H →
    BindsTo s fd args (ps.zip us) → Vals vs us → sp vs H Q E → codeAny (model P w) A (Code.call (Value.ref f) args) (CR CX outer P w H s Q E) s
theorem deeper_guards {A : Around} {env : Env} (h : A.guards = some []) : (A.deeper env).guards = some [] := by
  first
    | exact h
    | (simpa [Around.deeper] using h)
/-- how the parameters stand: plain, or in cells of the call -/
theorem par_kind {N ps : List Str} {us : List Value} {sc : Scope} {at_ : Nat} (S : FnScope N ps sc) :
    ∀ y ∈ ps.zip us, sc.names.lookup y.1 = some .local ∨ sc.names.lookup y.1 = some .cell ∧ ((cellsFrom at_ sc.names []).lookup y.1).isSome = true := by
  intro y hy
  cases S.par y.1 (List.of_mem_zip (a := y.1) (b := y.2) hy).1 with
  | inl plain => exact Or.inl plain
  | inr cell => exact Or.inr (And.intro cell (PySem.W.cellsFrom_some _ _ _ (Or.inl cell)))
section
variable {P : Program} {w : World} {K : PySem.W.Frag} {mg : Str → Option Value} {base : Heap}
variable {CX : CXT} {k : Nat} {f : Addr} {name qual : Str} {ar : Arguments} {bd : List Stmt} {sc : Scope} {dV kV dc pm cv ct oc : Value} {an od : Option Addr} {sl : Array (Option Value)} {N ps : List Str} {sp : Sp}
theorem fn_ofG (at_ : K.lookup f = some ⟨oc, od, .func (PySem.W.fnOf name qual ar bd sc dV kV dc pm an cv ct), sl⟩) (code : PySem.W.codeIn K cv qual = true) (S : FnScope N ps sc) (ari : ∀ vs H Q E, sp vs H Q E → List.length vs = List.length ps)
    (body : ∀ (A : Around) (outer : List Env) (s : Shared) (H : Hp) (vs : List V) (Q : VK) (E : XK), Room k (A.deeper (envOfC qual sc s.heap.objs.size f cv)) → (A.deeper (envOfC qual sc s.heap.objs.size f cv)).guards = some [] → sp vs H Q E →
      ∃ t, PSs (cxOf CX P w K mg base N qual sc f cv A outer s H E) bd t ∧ t (Ends.mk (fun _ H' => Q .non H') Q (fun _ _ => False) fun _ _ => False) (start N vs) H) :
    FnG P w K mg base CX (k + 1) f (PySem.W.fnOf name qual ar bd sc dV kV dc pm an cv ct) ps sp := by
  constructor
  · exact ari
  · intro A outer s H args us vs Q E room quiet env binds vals told
    obtain ⟨t, runs, holds⟩ := body A outer s H vs Q E (room.deeper _) (deeper_guards quiet) told
    have there := env.mod.kin.keeps fun b o z => (env.bs b o z).1
    have free := env.mod.nolimit.keeps fun b o z => (env.bs b o z).1
    apply codeAny_call_function room.depth (there _ _ at_) rfl S.co S.gen rfl (PySem.W.codeRec_of there code)
    apply binds
    apply wpAny_newFunctionEnv_cells S.kind (par_kind S)
    intro en same s1 made
    subst same
    refine And.intro (free.keeps made.toInCall.keep) (codeAny_func ?_)
    have J0 := inv_start (CX := CX) (E := E) S room.hd env (ari _ _ _ _ told) vals made
    apply wpAny_mono (runs.run [] s1 (start N vs) H _ J0 holds) (fun fl s' out => ?_) (fun _ _ z => z)
    match fl, out with
    | .ret u, ⟨v, σ', H', J, rv, q⟩ => exact ⟨v, H', J.os, J.bare, J.base, J.hok, rv, q⟩
    | .next, ⟨σ', H', J, q⟩ => exact ⟨V.non, H', J.os, J.bare, J.base, J.hok, rfl, q⟩
    | .brk, ⟨_, _, _, q⟩ => exact q.elim
    | .cont, ⟨_, _, _, q⟩ => exact q.elim
theorem Fun.okG {x : Str} {st : Stmt} {fd : FuncData} (F : L2.Fun K x qual st f fd) (S : FnScope N ps (defScope st)) (ari : ∀ vs H Q E, sp vs H Q E → List.length vs = List.length ps)
    (body : ∀ (cv : Value) (A : Around) (outer : List Env) (s : Shared) (H : Hp) (vs : List V) (Q : VK) (E : XK), Room k (A.deeper (envOfC qual (defScope st) s.heap.objs.size f cv)) → (A.deeper (envOfC qual (defScope st) s.heap.objs.size f cv)).guards = some [] → sp vs H Q E →
      ∃ t, PSs (cxOf CX0 P w K mg base N qual (defScope st) f cv A outer s H E).nox (defBody st) t ∧ t { nx := fun _ H' => Q .non H', rt := Q } (start N vs) H) : FnG P w K mg base CX0 (k + 1) f fd ps sp := by
  rcases F.ex with ⟨oc', od', kV', dc', pm', an', cv', ct', sl', same, at_, code⟩
  subst same
  exact fn_ofG at_ code S ari fun A outer s H vs Q E room quiet told =>
    match body cv' A outer s H vs Q E room quiet told with
    | ⟨t, runs, holds⟩ => ⟨t, runs.nox, holds⟩
end
section
variable {X : Cx} {CX : CXT} {k : Nat} {f : Addr} {fd : FuncData} {ps : List Str} {sp : Sp} {E : XK} {x : Str} {p pos : Pos} {e : Expr} {es : List Expr} {t : TA}
/-- the def is called with us -/
theorem run_fnG {pins : List (Addr × Obj)} {σ : L2.St} {H : Hp} {s : Shared} {Q : VK} {us : List Value} {vs : List V} (F : FnG X.prog X.w X.K X.mg X.base CX k f fd ps sp) (room : Room k X.A) (quiet : X.A.guards = some []) (bi : Binds X.K fd ps []) (out : Passes CX X E) (I : Inv X pins σ H s)
    (vals : Vals vs us) (told : sp vs H Q E) : wpAny (model X.prog X.w) X.A (call (.ref f) us) (EP X pins σ Q) X.xe s := by
  have many : us.length = ps.length := (Vals.length vals).symm.trans (F.arity _ _ _ _ told)
  have bound := bi s us I.kIn (by simpa using many)
  rw [List.append_nil] at bound
  apply wpAny_call
  apply codeAny_mono (F.goes room quiet I.env0 bound vals told)
  intro r s' got
  match r, got with
  | .error z, got => exact out pins σ H s z s' I got
  | .ok (.ret u), got => exact I.after got
  | .ok .next, got => exact got.elim
  | .ok .brk, got => exact got.elim
  | .ok .cont, got => exact got.elim
/-- f(e, ..) -/
theorem pe_callG (F : FnG X.prog X.w X.K X.mg X.base CX k f fd ps sp) (room : Room k X.A) (quiet : X.A.guards = some []) (gl : Gl X x) (at_ : X.mg x = some (.ref f)) (kp : PySem.W.keepIn X.K (.ref f) = true) (bi : Binds X.K fd ps []) (out : Passes CX X E) (args : PA X (e :: es) t)
    (nodebug : (x == ("__debug__" : Str)) = false := by decide) (plain : starEach (e :: es) X.env = (false, eval e X.env) :: starEach es X.env := by rfl) (nostar : (backTo pos (starEach es X.env)).any (·.1) = false := by rfl) :
    PE X (Expr.Call (Expr.Name x p) (e :: es) [] pos) (tCall sp [] E t) := by
  constructor
  intro pins s σ H Q I h
  apply wpAny_Call_Name_kw
  apply ld_glob I gl at_ _ nodebug
  apply PySem.W.callWith_K (h₀ := X.base) I.ok.mod.kin kp _ plain nostar
  apply thn (args.run pos pins s σ H _ I h)
  rintro us s1 ⟨vs, H1, I1, vals, told⟩
  have told' : sp (vs ++ []) H1 Q E := told
  rw [List.append_nil] at told'
  exact ⟨I1.kIn, run_fnG F room quiet bi out I1 vals told'⟩
end

/-! ### repr of data -/
section
variable {X : Cx}
def rRepr (K : PySem.W.Frag) : List V → Hp → VK → Prop := fun xs H Q => ∃ (a : Addr) (d : PyData), xs = [.ref a] ∧ Dp K H (.ref a) d ∧ d.showable = true ∧ d.hasDict = false ∧ d.depth ≤ 64 ∧ d.shown.length ≤ sizeLine ∧ Q (.str d.shown) H
/-- repr(a list or tuple of plain data), where nothing is being shown -/
theorem call_reprD (quiet : X.A.guards = some []) (much : X.A.units + 66 < cLine) : CallR X (.builtin "repr") (rRepr X.K) := by
  rintro pins s σ H xs us Q I vals ⟨a, d, ex, data, shows, nodict, deep, short, wish⟩
  subst ex
  match us, vals with
  | [u], .cons ru .nil =>
    have eu : u = Value.ref a := ru
    rcases Dp.reads I d _ _ data ru with ⟨as, reads⟩
    subst eu
    apply repr_of_reads' reads shows (fun z => by rw [nodict] at z; cases z) quiet (by omega) (fun _ _ z => z) _ short
    intro h u tk kept
    exact ⟨V.str d.shown, H, I.kept kept, ⟨_, rfl⟩, wish⟩
end
end HX

set_option maxRecDepth 100000
set_option maxHeartbeats 3000000
namespace HX
open PySem PySem.Spec PyProof.Rows L2
/-! ### the law is called: nothing is tracked but the script, and it is only read -/
def one (a : Addr) (u : HO) : Hp := fun b => if b = a then some u else none
theorem one_at {a b : Addr} {u v : HO} (z : one a u b = some v) : b = a ∧ v = u := by
  unfold one at z
  split at z
  · rename_i e
    exact ⟨e, (Option.some.inj z).symm⟩
  · cases z
/-- what is tracked when the script stands at a -/
theorem script_world {P : Program} {w : World} {K : PySem.W.Frag} {h : Heap} {a : Addr} {vs : List Value} {ns : List Int} (kin : K.In h) (list : h.get? a = some (seqObj "list" vs.toArray 0)) (nums : IntsAre vs ns) (short : ns.length ≤ sizeLine) :
    ∃ H : Hp, Only H ∧ SqL K H a (ns.map V.int) ∧ HOk P w H h ∧ ∀ b u, H b = some u → b = a ∧ K.lookup a = none := by
  have vals := vals_ints nums
  have many : vs.length = ns.length := nums.length
  rcases Option.eq_none_or_eq_some (K.lookup a) with free | ⟨o, held⟩
  · refine ⟨one a (.frz (seqObj "list" vs.toArray 0) (.lst (ns.map V.int))), fun b => ?_, Or.inl (Or.inr ⟨seqObj "list" vs.toArray 0, if_pos rfl⟩), fun b u z => ?_, fun b u z => ⟨(one_at z).1, free⟩⟩
    · unfold one
      split
      · exact Or.inr ⟨_, _, rfl⟩
      · exact Or.inl rfl
    · obtain ⟨e1, e2⟩ := one_at z
      rw [e1, e2]
      exact ⟨list, by simpa using short, vs, 0, vals, list⟩
  · have same : seqObj "list" vs.toArray 0 = o := Option.some.inj (list.symm.trans (kin a o held))
    subst same
    refine ⟨fun _ => none, fun _ => Or.inl rfl, Or.inr ⟨seqObj "list" vs.toArray 0, vs.toArray, 0, held, rfl, rfl, rfl, ?_, ?_⟩, fun b u z => ?_, fun b u z => ?_⟩
    · show vs.toArray.size ≤ sizeLine
      rw [List.size_toArray, many]
      exact short
    · simpa using vals
    · exact absurd (show (none : Option HO) = some u from z) (by simp)
    · exact absurd (show (none : Option HO) = some u from z) (by simp)
/-- the caller's view of the heap then -/
theorem script_env {P : Program} {w : World} {K : PySem.W.Frag} {mg mb : Str → Option Value} {s : Shared} {a : Addr} {vs : List Value} {H : Hp} (kin : K.In s.heap) (top : s.heap.Ns mainGlobals mg) (blt : s.heap.Ns builtinsNs mb) (own : ∀ x : Str, x ≠ "__name__" → mb x = bootBuiltins x) (free : s.heap.NoLimit) (still : s.gens = #[])
    (list : s.heap.get? a = some (seqObj "list" vs.toArray 0)) (ok : HOk P w H s.heap) (only : ∀ b u, H b = some u → b = a ∧ K.lookup a = none) :
    K.In (hidT s.heap H) ∧ (hidT s.heap H).Ns mainGlobals mg ∧ Env0 P w K mg (hidT s.heap H) callerA [] s H := by
  have stay : ∀ {b : Addr} {o : Obj}, s.heap.get? b = some o → (b = a → False) → (hidT s.heap H).get? b = some o := fun {b o} there far => by
    apply hidT_get there
    cases q : H b with
    | none => rfl
    | some u => exact (far (only b u q).1).elim
  have ns : ∀ {b : Addr} {m : Str → Option Value}, s.heap.Ns b m → (hidT s.heap H).Ns b m := by
    intro b m ⟨o, es, ep, there, dict, rest⟩
    refine ⟨o, es, ep, stay there fun e => ?_, dict, rest⟩
    rw [e, list] at there
    cases there
    exact Data.noConfusion dict
  have kin' : K.In (hidT s.heap H) := fun b o z => by
    apply hidT_get (kin b o z)
    cases q : H b with
    | none => rfl
    | some u =>
      obtain ⟨e1, e2⟩ := only b u q
      rw [e1, e2] at z
      cases z
  refine ⟨kin', ns top, ⟨rfl, ⟨kin', ns top, ⟨mb, ns blt, own⟩, ?_⟩, fun _ _ z => of_hidT z, Nat.le_of_eq (hidT_size _ _), True.intro, fun b z => (List.not_mem_nil z).elim, ok, .of_eq still⟩⟩
  obtain ⟨mc, l1, l2⟩ := free
  exact ⟨mc, ns l1, l2⟩
/-- the law's call, begun where nothing is being shown -/
theorem law_callG {P : Program} {w : World} {K : PySem.W.Frag} {mg mb : Str → Option Value} {k : Nat} {fa a : Addr} {fd : FuncData} {x : Str} {sp : Sp} {s : Shared} {vs : List Value} {ns : List Int} (kin : K.In s.heap) (top : s.heap.Ns mainGlobals mg) (blt : s.heap.Ns builtinsNs mb)
    (own : ∀ x : Str, x ≠ "__name__" → mb x = bootBuiltins x) (free : s.heap.NoLimit) (still : s.gens = #[]) (list : s.heap.get? a = some (seqObj "list" vs.toArray 0)) (nums : IntsAre vs ns) (short : ns.length ≤ sizeLine) (room : Room k callerA)
    (F : ∀ base : Heap, K.In base → base.Ns mainGlobals mg → FnG P w K mg base CX0 k fa fd [x] sp) (bind : ∀ (s : Shared) (u : Value), BindsTo s fd ⟨[u], []⟩ [(x, u)])
    (told : ∀ H : Hp, Only H → SqL K H a (ns.map V.int) → sp [.ref a] H (fun v _ => v = .bl true) fun _ _ _ => False) :
    codeAny (model P w) callerA (.call (.ref fa) ⟨[.ref a], []⟩) (fun r s' => r = .ok (.ret (.bool true)) ∧ OldK s.heap s'.heap ∧ s'.os = s.os ∧ AllBare s'.gens) s := by
  obtain ⟨H, frozen, seq, ok, only⟩ := script_world (P := P) (w := w) kin list nums short
  obtain ⟨kin', top', env⟩ := script_env kin top blt own free still list ok only
  apply codeAny_mono ((F _ kin' top').goes room rfl env (bind s (.ref a)) (Paired.cons (show RelV (V.ref a) (Value.ref a) from rfl) Paired.nil) (told H frozen seq))
  intro r s' got
  match r, got with
  | .error e, got => exact False.elim (show False from got)
  | .ok .next, got => exact False.elim got
  | .ok .brk, got => exact False.elim got
  | .ok .cont, got => exact False.elim got
  | .ok (.ret u), ⟨v, H', os, bare, un, ok', rv, yes⟩ =>
    have yes' : v = .bl true := yes
    subst yes'
    have ru : u = Value.bool true := rv
    refine ⟨by rw [ru], OldK.of_keep fun b o there => ?_, os, bare⟩
    rcases frozen b with z | ⟨ob, xs, z⟩
    · exact un.keep b o there z (fun y => (List.not_mem_nil (show b ∈ ([] : List Addr) from y)).elim) (List.not_mem_nil)
    · obtain ⟨e1, _⟩ := ok b _ z
      obtain ⟨e2, _⟩ := ok' b _ (un.frzs b ob _ z)
      rw [there] at e1
      rw [Option.some.inj e1]
      exact e2
/-- the end of a proof by hand whose law asks for repr -/
theorem walk_ofG {l : PySem.W.OpenLaw} {n k : Nat} {q : Program} {loose : List Str} {XP : (Str → Option Value) → Heap → Prop} {YP : World → Heap → Prop} {d : DefRec} {K : Params → PySem.W.Frag} {sp : World → Sp} {x : Str} (most : l.most = some n) (short : n ≤ sizeLine) (nodef : d.params.defaults = [])
    (room : Room k callerA) (kin : ∀ (w : World) (h : Heap), YP w h → (K w.params).In h)
    (F : ∀ (w : World) (mg : Str → Option Value) (fa : Addr) (h : Heap), (K w.params).In h → h.Ns mainGlobals mg → mg d.name = some (.ref fa) → ∃ fd : FuncData, (∀ (s : Shared) (u : Value), BindsTo s fd ⟨[u], []⟩ [(x, u)]) ∧
      ∀ base : Heap, (K w.params).In base → base.Ns mainGlobals mg → FnG l.prog w (K w.params) mg base CX0 k fa fd [x] (sp w))
    (told : ∀ (w : World) (H : Hp) (a : Addr) (ns : List Int), ns.length ≤ n → Only H → SqL (K w.params) H a (ns.map V.int) → sp w [.ref a] H (fun v _ => v = .bl true) fun _ _ _ => False) :
    PySem.W.WalkO q loose XP YP l.row.toRowW d []
      (fun f vs => PySem.call f vs) := by
  apply Att.attach_call most nodef
  intro w s₀ s₁ mg mb fa o pm cd doc a vs ns G Y ho hd hcd at_ list nums many still
  have there := kin w _ Y
  obtain ⟨fd, bind, made⟩ := F w mg fa _ there G.T.g at_
  exact law_callG there G.T.g G.T.b G.T.builtins G.T.nolimit still list nums (Nat.le_trans many short) room made bind fun H frozen seq => told w H a ns many frozen seq
end HX
namespace HX
open PySem PySem.Spec PyProof.Rows L2
/-! ### own errors made without arguments -/
section
variable {X : Cx} {C : Addr} {bm : List Value} {B nw ini : String}
theorem pmk_own0 {x : Str} {p pos : Pos} (F : ExcBaseFacts B nw ini bm) (own : PySem.W.excIn X.K C bm nw = true) (at_ : X.mg x = some (.ref C)) (kp : PySem.W.keepIn X.K (.ref C) = true) (r : Raises X (.ref C)) (gl : Gl X x) (nodebug : (x == ("__debug__" : Str)) = false := by decide) :
    PMk X (Expr.Call (Expr.Name x p) [] [] pos) (fun _ H Q => Q (.ref C) none H) := by
  intro pins s σ H Q I told
  apply wpAny_Call_Name_kw
  apply ld_glob I gl at_ _ nodebug
  apply PySem.W.callWith_K0 I.kIn kp
  rcases exc_obj I.kIn own with ⟨_, _, _, _, _, _, _, _, _, _, _, _, _, _, _, _, _, there, ns, noinit, tail⟩
  cases s
  exact wpAny_call_exc_subT F tail there ns noinit (fun _ e new => mk_of I new r told (I.hok.gone new.new)) (Nat.zero_le _)
end
/-! ### C(..) whose __init__ may raise; what is wished of the error may speak of the slots -/
section
variable {X : Cx} {CX : CXT} {k : Nat} {f C : Addr} {fd : FuncData} {ps : List Str} {sp : Sp} {E : L2.St → XK}
def tMakeS (C : Addr) (sp : Sp) (E : L2.St → XK) (t : TA) : TE := fun σ H Q => t σ H fun vs H1 => ∀ x dx, H1 x = none → H1 dx = none → dx ≠ x →
  sp (.ref x :: vs) (upd (upd H1 dx (.own x)) x (.ins C dx [])) (fun v H2 => v = .non ∧ Q (.ref x) H2) (E σ)
theorem run_makeS {pins : List (Addr × Obj)} {σ : L2.St} {H : Hp} {s : Shared} {Q : VK} {us : List Value} {vs : List V} (M : Mk X.K C f) (F : FnOk X.prog X.w X.K X.mg X.base CX k f fd ps sp) (room : Room (k + 1) X.A) (bi : Binds X.K fd ps []) (out : PassesAt CX X σ (E σ)) (I : Inv X pins σ H s) (vals : Vals vs us)
    (told : ∀ x dx, H x = none → H dx = none → dx ≠ x → sp (.ref x :: vs) (upd (upd H dx (.own x)) x (.ins C dx [])) (fun v H2 => v = .non ∧ Q (.ref x) H2) (E σ)) : wpAny (model X.prog X.w) X.A (call (.ref C) us) (EP X pins σ Q) X.xe s := by
  have J := Inv.made (C := C) I
  have now := told (s.heap.objs.size + 1) s.heap.objs.size (I.hok.fresh (Nat.le_succ _)) (I.hok.fresh (Nat.le_refl _)) (Nat.ne_of_lt (Nat.lt_succ_self _))
  have all : Vals (V.ref (s.heap.objs.size + 1) :: vs) (Value.ref (s.heap.objs.size + 1) :: us) := Paired.cons (show RelV (V.ref _) (Value.ref _) from rfl) vals
  have many : (Value.ref (s.heap.objs.size + 1) :: us).length = ps.length := (Vals.length all).symm.trans (F.len _ _ _ _ now)
  have bound := bi { s with heap := (s.heap.push PySem.W.emptyDict).push (PySem.W.instObj C s.heap.objs.size) } (Value.ref (s.heap.objs.size + 1) :: us) J.kIn (by simpa using many)
  rw [List.append_nil] at bound
  apply wpAny_call
  apply make_map (f := f) I.kIn M.makes M.init (beq_iff_eq.mp M.fn)
  refine codeAny_mono (F.run _ X.stack _ _ (Args.mk (Value.ref (s.heap.objs.size + 1) :: us) []) _ _ _ (E σ) (room.make C us []) (J.env0.make C us []) bound all now) ?_
  intro r s' got
  match r, got with
  | .error e, got => exact out pins _ _ e s' J got
  | .ok .next, got => exact got.elim
  | .ok .brk, got => exact got.elim
  | .ok .cont, got => exact got.elim
  | .ok (.ret u), got =>
    rcases J.after got with ⟨v, H', J', rv, non, wish⟩
    rw [non] at rv
    exact And.intro rv ⟨V.ref (s.heap.objs.size + 1), H', J', rfl, wish⟩
theorem pe_makeS {x : Str} {p pos : Pos} {e : Expr} {es : List Expr} {t : TA} (M : Mk X.K C f) (F : FnOk X.prog X.w X.K X.mg X.base CX k f fd ps sp) (room : Room (k + 1) X.A) (gl : Gl X x) (at_ : X.mg x = some (.ref C)) (bi : Binds X.K fd ps []) (out : ∀ σ, PassesAt CX X σ (E σ)) (args : PA X (e :: es) t)
    (nodebug : (x == ("__debug__" : Str)) = false := by decide) (plain : starEach (e :: es) X.env = (false, eval e X.env) :: starEach es X.env := by rfl) (nostar : (backTo pos (starEach es X.env)).any (·.1) = false := by rfl) : PE X (Expr.Call (Expr.Name x p) (e :: es) [] pos) (tMakeS C sp E t) := by
  constructor
  intro pins s σ H Q I h
  apply wpAny_Call_Name_kw
  apply ld_glob I gl at_ _ nodebug
  apply PySem.W.callWith_K (h₀ := X.base) I.ok.mod.kin M.kp _ plain nostar
  apply thn (args.run pos pins s σ H _ I h)
  rintro us s1 ⟨vs, H1, I1, vals, told⟩
  exact And.intro I1.kIn (run_makeS M F room bi (out σ) I1 vals told)
end
/-! ### a == b of two instances by their own __eq__: both answers -/
def spEqB (R : Addr → Addr → Bool → Hp → Prop) : Sp := fun vs H Q _ => ∃ a b c, vs = [.ref a, .ref b] ∧ R a b c H ∧ ∀ H', Same H H' → Q (.bl c) H'
def rEqI (C : Addr) (R : Addr → Addr → Bool → Hp → Prop) : R2 := fun x y H Q => ∃ a b c dx dy fs gs, x = .ref a ∧ y = .ref b ∧ H a = some (.ins C dx fs) ∧ H b = some (.ins C dy gs) ∧ R a b c H ∧ ∀ H', Same H H' → Q (.bl c) H'
theorem op_eqI {X : Cx} {CX : CXT} {n : Nat} {C f : Addr} {fd : FuncData} {ps : List Str} {R : Addr → Addr → Bool → Hp → Prop} {E : XK} (F : FnOk X.prog X.w X.K X.mg X.base CX n f fd ps (spEqB R)) (room : Room n X.A)
    (own : PySem.W.findIn X.K (.ref C) "__eq__" = some (some (.ref f))) (fn : PySem.W.isFn X.K (.ref f) = true) (bi : Binds X.K fd ps []) (out : Passes CX X E) : OpR X (compareOp .Eq) (rEqI C R) := by
  intro pins s σ H x y v u Q I lx ly ⟨a, b, c, dx, dy, fs, gs, ex, ey, at1, at2, rel, wish⟩
  subst ex ey
  have ea : v = Value.ref a := lx
  have eb : u = Value.ref b := ly
  subst ea eb
  have now : spEqB R [.ref a, .ref b] H (fun z H' => z = .bl c ∧ Q (.bl c) H') E := ⟨a, b, c, rfl, rel, fun H' z => And.intro rfl (wish H' z)⟩
  have all : Vals [V.ref a, V.ref b] [Value.ref a, Value.ref b] := Paired.cons (show RelV (V.ref a) _ from rfl) (Paired.cons (show RelV (V.ref b) _ from rfl) Paired.nil)
  have bound := bi s [Value.ref a, Value.ref b] I.kIn (by simpa using F.len _ _ _ _ now)
  rw [List.append_nil] at bound
  rcases ins_get I.hok at1 with ⟨_, i1, _⟩
  rcases ins_get I.hok at2 with ⟨_, i2, _⟩
  rcases i1.look with ⟨_, i1, _⟩
  rcases i2.look with ⟨_, i2, _⟩
  rcases I.fr with ⟨_, frame⟩
  show wpAny (model X.prog X.w) X.A (richCompare .Eq (Value.ref a) (Value.ref b)) (EP X pins σ Q) X.xe s
  apply PySem.W.cmp_K (op := .Eq) (tb := Value.ref C) room.units0 frame I.ok.mod.kin i1 i2.type (by simp [PySem.W.notFirst]) own fn
  apply wpAny_call
  refine codeAny_mono (F.run X.A X.stack s H (Args.mk [Value.ref a, Value.ref b] []) _ _ _ E room I.env0 bound all now) ?_
  intro r s' got
  match r, got with
  | .error e, got => exact out pins σ H s e s' I got
  | .ok .next, got => exact got.elim
  | .ok .brk, got => exact got.elim
  | .ok .cont, got => exact got.elim
  | .ok (.ret z), got =>
    rcases I.after got with ⟨t, H', J, rt, et, q⟩
    rw [et] at rt
    have ez : z = Value.bool c := rt
    rw [ez]
    exact ⟨V.bl c, H', J, rfl, q⟩
end HX
namespace HX
open PySem PySem.Spec PyProof.Rows L2
/-! ### several clauses 'except C as n' -/
/-- an error of ours at a that flies, seen from the frame whose try catches it -/
structure Air (X : Cx) (pins : List (Addr × Obj)) (σ : L2.St) (H : Hp) (a : Addr) (cls : Value) (d : Option Addr) (s : Shared) : Prop where
  ex : ∃ (B : Heap) (s0 : Shared), Inv X pins σ H s0 ∧ (∀ b o, s0.heap.get? b = some o → b ∉ frs X.stack → B.get? b = some o) ∧ s0.heap.UpToSlots s.heap ∧ HandSPX.FlyingZ B (X.env :: X.outer) a (Zc cls d) s.heap ∧ s.os = s0.os ∧ AllBare s.gens
  new : H a = none
section
variable {X : Cx} {pins : List (Addr × Obj)} {σ : L2.St} {H : Hp} {a : Addr} {cls : Value} {d : Option Addr} {s : Shared}
theorem Air.inv (y : Air X pins σ H a cls d s) : Inv X pins σ H s := by
  rcases y.ex with ⟨B, s0, I, nb, up, fly, os, ag⟩
  exact I.landed nb fly.1 up os ag
theorem Air.rec_ (y : Air X pins σ H a cls d s) : ∃ oe vs, s.heap.get? a = some oe ∧ Zc cls d oe ∧ oe.data = .fields vs := by
  rcases y.ex with ⟨B, s0, _, _, _, fly, _, _⟩
  exact fly.there
theorem Air.apart (y : Air X pins σ H a cls d s) : a ∉ frs (X.env :: X.outer) := by
  intro in_
  rcases y.ex with ⟨B, s0, _, _, _, fly, _, _⟩
  rcases fly.there with ⟨oe, vs, at_, _, fields⟩
  rcases fly.2.2.1.mem in_ with ⟨_, o, at2, frame⟩
  have same : oe = o := Option.some.inj (at_.symm.trans at2)
  exact frame vs (by rw [← same]; exact fields)
theorem Air.suite (y : Air X pins σ H a cls d s) (fr : X.env.frame = some X.env.locals) {oe : Obj} {vs : Array Value} (at_ : s.heap.get? a = some oe) (fields : oe.data = .fields vs) : Inv (X.suite a ((a, oe) :: (X.pn ++ pins))) [] σ H s := by
  apply y.inv.suite at_ fields y.new
  · intro z
    exact y.apart (List.mem_filterMap.mpr ⟨X.env, List.mem_cons_self, by rw [fr, z]⟩)
  · intro z
    rcases List.mem_filterMap.mp z with ⟨e, he, q⟩
    exact y.apart (List.mem_filterMap.mpr ⟨e, List.mem_cons_of_mem _ he, q⟩)
theorem Air.again {A : Around} {E : Value → Shared → Prop} {Q : Unit → Shared → Prop} (y : Air X pins σ H a cls d s) (go : ∀ h, Air X pins σ H a cls d { s with heap := h } → Q () { s with heap := h }) : wpAny (model X.prog X.w) A (setFlight (.ref a) none) Q E s := by
  rcases y.ex with ⟨B, s0, I, nb, up, fly, os, ag⟩
  exact HandSPX.lands_againZ fly fun h fly' up' => go h ⟨⟨B, s0, I, nb, up.trans up', fly', os, ag⟩, y.new⟩
/-- no clause is left: it flies on -/
theorem Air.lost {W : WX} {D : Ends} (y : Air X pins σ H a cls d s) (hs : X.stack = X.env :: X.outer) (fr : X.env.frame = some X.env.locals) (tk : Takes X W) (w : W cls d σ H) : wpAny (model X.prog X.w) X.A (handleBy (.ref a) X.env []) (SP X pins D) X.xe s := by
  rcases y.ex with ⟨B, s0, I, nb, up, fly, os, ag⟩
  apply wpAny_handleBy_nil
  have end_ : wpAny (model X.prog X.w) X.A (setFlight (.ref a) X.env.frame) (fun _ s4 => wpAny (model X.prog X.w) X.A (throw (.ref a) : Sem Flow) (SP X pins D) X.xe s4) X.xe s := by
    rw [fr]
    apply HandSPX.setFlight_upZ fly
    intro h held up2
    exact wpAny_throw (tk _ _ ⟨a, B, s0, pins, σ, H, cls, d, rfl, I, nb, up.trans up2, Or.inr (Or.inr (by rw [hs]; exact held)), y.new, os, ag, w⟩)
  rcases id fly with ⟨_, _, _, oe, vs, T, oT, ts, at_, hz, fields, h1, hr⟩
  unfold PySem.passOn
  apply wpAny_bind
  apply wpAny_field at_ fields h1
  have some_ : (Value.ref T == Value.none) = false := rfl
  rw [some_, if_neg Bool.false_ne_true]
  first
    | exact wpAny_bind (wpAny_pure (wpAny_bind end_))
    | exact wpAny_bind end_
end
/-- behind the suite the name is unbound -/
def endAs (D : Ends) (i : Nat) : Ends := { nx := fun σ' H' => D.nx (σ'.set i none) H', rt := D.rt, bk := fun σ' H' => D.bk (σ'.set i none) H', ct := fun σ' H' => D.ct (σ'.set i none) H' }
/-- the clauses in their order: the first that names the error's class is gone through -/
def wManyAs (K : PySem.W.Frag) (Wout : WX) (D : Ends) (i : Nat) : List (Value × (Addr → Value → Option Addr → TS)) → WX
  | [] => Wout
  | (c, ts) :: r => fun cls d σ H => ∃ b, PySem.W.exmOne K cls c = some b ∧ (b = true → ∀ a, H a = none → ts a cls d (endAs D i) (σ.set i (some (.ref a))) H) ∧ (b = false → wManyAs K Wout D i r cls d σ H)
abbrev Clause : Type := Value × (Addr → Value → Option Addr → TS)
inductive HdsAs (X : Cx) (n : Str) : List ExceptHandler → List Clause → Prop
  | nil : HdsAs X n [] []
  | cons {x : Str} {c : Value} {ts : Addr → Value → Option Addr → TS} {st : Stmt} {more : List Stmt} {p1 p2 : Pos} {hds : List ExceptHandler} {l : List Clause} (named : Names X x c)
      (suite : ∀ (a : Addr) (oe : Obj) (cls : Value) (d : Option Addr) (pn : List (Addr × Obj)), Zc cls d oe → (∃ vs, oe.data = .fields vs) → PSs (X.suite a ((a, oe) :: pn)) (st :: more) (ts a cls d)) (rest : HdsAs X n hds l) :
      HdsAs X n (.ExceptHandler (some (.Name x p1)) (some n) (st :: more) p2 :: hds) ((c, ts) :: l)
section
variable {X : Cx} {n : Str} {i : Nat} {pins : List (Addr × Obj)} {σ : L2.St} {H : Hp} {a : Addr} {cls : Value} {d : Option Addr} {s : Shared} {Wout : WX} {D : Ends}
theorem clauses (ok : X.Ok) (hs : X.stack = X.env :: X.outer) (fr : X.env.frame = some X.env.locals) (nod : X.N.Nodup) (at_ : X.N[i]? = some n) (loc : X.env.kindOf n = some .local) (tk : Takes X Wout) (y : Air X pins σ H a cls d s) :
    ∀ {hds : List ExceptHandler} {l : List Clause}, HdsAs X n hds l → wManyAs X.K Wout D i l cls d σ H → wpAny (model X.prog X.w) X.A (handleBy (.ref a) X.env hds) (SP X pins D) X.xe s := by
  intro hds l k
  induction k with
  | nil => exact fun w => y.lost hs fr tk w
  | @cons x c ts st more p1 p2 hds2 l2 named suite rest ih =>
    intro w
    rcases w with ⟨b, says, yes, no⟩
    rcases y.rec_ with ⟨oe, vs, there, hz, fields⟩
    have S := y.suite fr there fields
    have looks : PySem.W.Looks (model X.prog X.w) s.heap (typeOf (.ref a)) cls := fun _ _ _ _ stays q => wpAny_typeOf_ref (stays _ _ there) (by rw [hz.1]; exact q)
    have matched := PySem.W.exm_one (M := model X.prog X.w) y.inv.kIn looks says
    have ask : ∀ (Q E : Value → Shared → Prop), Q c s → wpAny (model X.prog X.w) (X.A.mark (some (.ref a))) (eval (Expr.Name x p1) X.env) Q E s := by
      intro Q E q
      rcases named with ⟨gl, nodebug, own | ⟨hidden, vis, plain⟩⟩
      · exact ld_glob (X := X.suite a ((a, oe) :: (X.pn ++ pins))) S gl own q nodebug
      · exact ld_blt (X := X.suite a ((a, oe) :: (X.pn ++ pins))) S gl hidden vis q plain nodebug
    apply wpAny_handleBy_cons
    · apply codeAny_handlers_test
      apply ask
      apply matched.here
      match b, yes, no with
      | false, _, no => exact ih (no rfl)
      | true, yes, _ =>
        apply codeAny_handlers_suite_as
        apply y.again
        intro h y4
        rcases y4.rec_ with ⟨o4, v4, there4, hz4, fields4⟩
        apply store_ok (X := X.suite a ((a, o4) :: (X.pn ++ pins))) (v := .ref a) (y4.suite fr there4 fields4) nod at_ (Or.inl loc) rfl _ (Or.inr loc)
        intro s5 S5
        apply wpAny_mono ((suite a o4 cls d (X.pn ++ pins) hz4 ⟨_, fields4⟩).run [] s5 _ H _ S5 (yes rfl a y.new)) _ (fun _ _ z => z.elim)
        intro fl s6 out
        have unbound : ∀ {σ6 : L2.St} {H6 : Hp} {Q : Shared → Prop}, Inv (X.suite a ((a, o4) :: (X.pn ++ pins))) [] σ6 H6 s6 → (∀ s7, Inv X pins (σ6.set i none) H6 s7 → Q s7) → wpAny (model X.prog X.w) X.A (do bindName X.env n .none; unbindBehindTheSuite X.env n p2) (fun _ s7 => Q s7) X.xe s6 := by
          intro σ6 H6 Q S6 then_
          exact gone_ok (S6.unsuite ok) nod at_ loc then_
        match fl, out with
        | .next, ⟨σ6, H6, S6, q6⟩ => exact unbound S6 fun s7 J7 => ⟨_, _, J7, q6⟩
        | .brk, ⟨σ6, H6, S6, q6⟩ => exact unbound S6 fun s7 J7 => ⟨_, _, J7, q6⟩
        | .cont, ⟨σ6, H6, S6, q6⟩ => exact unbound S6 fun s7 J7 => ⟨_, _, J7, q6⟩
        | .ret u, ⟨v6, σ6, H6, S6, r6, q6⟩ => exact unbound S6 fun s7 J7 => ⟨_, _, _, J7, r6, q6⟩
    · intro z
      cases z
theorem ps_try_manyAs {body : List Stmt} {h₀ : ExceptHandler} {hds : List ExceptHandler} {l : List Clause} {pos : Pos} {tb : WX → TS} (hs : X.stack = X.env :: X.outer) (fr : X.env.frame = some X.env.locals) (nod : X.N.Nodup) (at_ : X.N[i]? = some n) (loc : X.env.kindOf n = some .local) (tk : Takes X Wout)
    (tried : ∀ (W : WX) (pn : List (Addr × Obj)) (xe : Value → Shared → Prop), Takes (X.tr pn xe) W → PassesOwn (model X.prog X.w) X.A X.env xe → PSs (X.tr pn xe) body (tb W)) (hh : HdsAs X n (h₀ :: hds) l) : PS X (Stmt.Try body (h₀ :: hds) [] [] pos) (fun D σ H => tb (wManyAs X.K Wout D i l) D σ H) := by
  constructor
  intro pins s σ H D I told
  have ok := I.ok
  apply wpAny_Try_except
  have caught : Takes (X.tr (X.pn ++ pins) fun e s₁ => wpAny (model X.prog X.w) X.A (noteFrame e X.env) (fun _ s₂ => wpAny (model X.prog X.w) X.A (setFlight e none) (fun _ s₃ => wpAny (model X.prog X.w) X.A (handleBy e X.env (h₀ :: hds)) (SP X pins D) X.xe s₃) X.xe s₂) X.xe s₁) (wManyAs X.K Wout D i l) := by
    intro u s' ⟨a, B, s0, pn, σ', H', cls, d, eu, J, nb, up, sky, new, os, ag, w⟩
    subst eu
    rw [hs] at sky
    apply Sky.land Zc.steady (by rw [ok.frames, hs]) fr sky
    intro h fly up2
    exact clauses (s := { s' with heap := h }) ok hs fr nod at_ loc tk ⟨⟨B, s0, J.ofTry ok, nb, up.trans up2, fly, os, ag⟩, new⟩ hh w
  apply wpAny_mono ((tried _ _ _ caught PassesOwn.looking).run [] s σ H D (I.toTry _) told) _ (fun _ _ z => z)
  intro fl s1 out
  match fl, out with
  | .next, ⟨σ', H', J, q⟩ => exact wpAny_execs_nil ⟨σ', H', J.ofTry ok, q⟩
  | .brk, ⟨σ', H', J, q⟩ => exact ⟨σ', H', J.ofTry ok, q⟩
  | .cont, ⟨σ', H', J, q⟩ => exact ⟨σ', H', J.ofTry ok, q⟩
  | .ret u, ⟨v, σ', H', J, r, q⟩ => exact ⟨v, σ', H', J.ofTry ok, r, q⟩
end
end HX

set_option maxRecDepth 100000
set_option maxHeartbeats 3000000
namespace HX
open PySem PySem.Spec PyProof.Rows L2 Evl
section
variable {K : PySem.W.Frag} {σ : L2.St} {H : Hp} {te : TE} {t : TT}
/-- a comprehension over any walk, the target a name; the elements are values -/
theorem el_lcW {wi : TI} {J : It} {n : Nat} {G : Hp → Prop} {Y : Nat → Hp → V → Hp → Prop} (w : Walk J n G Y) {j : Nat} {vs : List Nat} (f : Nat → Bool) (v : Nat → V)
    (hwi : ∀ H1, Same H H1 → ∀ R : It → Hp → Prop, (∀ H2, Same H1 H2 → R J H2) → wi σ H1 R) (hG : ∀ H1, Same H H1 → G H1) (hY : ∀ i H1 x H2, Y i H1 x H2 → H2 = H1) (hn : n ≤ 40000)
    (hw : ∀ x, wipe ((wipe σ vs).set j (some x)) vs = wipe σ vs)
    (ht : ∀ (i : Nat) (x : V) H1, Same H H1 → i < n → Y i H1 x H1 → EvT t ((wipe σ vs).set j (some x)) H1 (f i)) (he : ∀ (i : Nat) (x : V) H1, Same H H1 → i < n → Y i H1 x H1 → f i = true → Ev te ((wipe σ vs).set j (some x)) H1 (v i)) :
    EvL (tLc wi (gName j) t te vs) σ H (given n f v) := fun H0 e Q q => hwi H0 e _ fun H1 e1 Dl hD =>
  lc_it w (Qd := fun H' => Q (.ref Dl) H') (fun i H' => H1 Dl = none ∧ Same H1 H' ∧ H' Dl = some (.lst (given i f v)))
    ⟨hD, Ex.new hD, upd_same⟩ (fun i H' _ p => hG H' ((Same.trans e e1).trans p.2.1)) (fun i x H' H'' hi p y => by
      have e2 := hY i H' x H'' y
      subst e2
      obtain ⟨p1, p2, p3⟩ := p
      have eH := (Same.trans e e1).trans p2
      refine ⟨hw x, ?_⟩
      refine ht i x H'' eH hi y H'' (Ex.refl _) _ fun H3 e3 => ?_
      cases hf : f i with
      | true =>
        refine iteT ?_
        refine he i x H'' eH hi y hf H3 e3 _ fun H4 e4 => ⟨given i f v, e4 Dl _ (e3 Dl _ p3), sz_lt (by have := given_len i f v; omega), p1, Ex.mut ((Ex.trans p2 e3).trans e4) p1, ?_⟩
        rw [given_yes hf]
        exact upd_same
      | false =>
        refine iteF ?_
        refine ⟨p1, Ex.trans p2 e3, ?_⟩
        rw [given_no hf]
        exact e3 Dl _ p3)
    (fun H' p => q Dl H' (fresh_back e1 p.1) (e1.trans p.2.1) p.2.2)
theorem et_yes : EvT tYes σ H true := fun H1 _ _ q => q H1 (Ex.refl H1)
/-- all elements, none left out -/
theorem given_all {n : Nat} {v : Nat → V} : given n (fun _ => true) v = (List.range n).map v := by
  unfold given
  congr 1
  exact List.filter_eq_self.mpr (fun _ _ => rfl)
/-- all(..) of a new list of truth values -/
theorem ev_all {ta : TE} {bs : List Bool} (ha : EvL ta σ H (bs.map V.bl)) : Ev (tCB (rAll K) (tCons ta tNil)) σ H (.bl (bs.all id)) := fun H1 e Q q =>
  ha H1 e _ fun p H2 _ e2 h2 => ⟨p, bs, rfl, sq_of h2, q H2 e2⟩
theorem ev_chain {r r' : R2} {ta tb tc : TE} {x y z : V} {a b : Bool} (ha : Ev ta σ H x) (hb : Ev tb σ H y) (hr : RV r x y H (.bl a)) (hc : a = true → Ev tc σ H z) (hr' : a = true → RV r' y z H (.bl b)) : Ev (tChain r r' ta tb tc) σ H (.bl (a && b)) := fun H1 e Q q =>
  ha H1 e _ fun H2 e2 => hb H2 (e.trans e2) _ fun H3 e3 => hr H3 ((e.trans e2).trans e3) _ fun H4 e4 => ⟨a, rfl, by
    have e14 : Ex H1 H4 := (e2.trans e3).trans e4
    cases a with
    | true =>
      refine iteT ?_
      exact hc rfl H4 (e.trans e14) _ fun H5 e5 => hr' rfl H5 ((e.trans e14).trans e5) Q fun H6 e6 => q H6 ((e14.trans e5).trans e6)
    | false =>
      refine iteF ?_
      exact q H4 e14⟩
def rLeS : R2 := fun x y H Q => ∃ i j, x = .str i ∧ y = .str j ∧ Q (.bl (!decide (j.cps.toList < i.cps.toList))) H
theorem rv_leS {i j : Str} : RV rLeS (.str i) (.str j) H (.bl (!decide (j.cps.toList < i.cps.toList))) := fun H1 _ _ q => ⟨i, j, rfl, rfl, q H1 (Ex.refl H1)⟩
theorem ev_isi {ta tb : TE} {v : V} {nm : String} {t : Value} {b : Bool} (ha : Ev ta σ H v) (hb : Ev tb σ H (.ty nm)) (ht : ∀ H1, Same H H1 → TyX K H1 v t) (hk : PySem.W.kitOne K t (.type nm) = some b) : Ev (tCB (rIsi K) (tCons ta (tCons tb tNil))) σ H (.bl b) := fun H1 e Q q =>
  ha H1 e _ fun H2 e2 => hb H2 (e.trans e2) _ fun H3 e3 => ⟨v, .ty nm, t, .type nm, b, rfl, .ty nm, ht H3 ((e.trans e2).trans e3), hk, q H3 (e2.trans e3)⟩
theorem ev_strlen {ta : TE} {x : Str} (ha : Ev ta σ H (.str x)) (hz : x.length ≤ sizeLine) : Ev (tCB (fun xs H Q => ∃ z, xs = [V.str z] ∧ z.length ≤ sizeLine ∧ Q (.int z.length) H) (tCons ta tNil)) σ H (.int (x.length : Int)) := fun H1 e Q q =>
  ha H1 e _ fun H2 e2 => ⟨x, rfl, hz, q H2 e2⟩
end
end HX
namespace HX
open PySem PySem.Spec PyProof.Rows L2 Evl
section
variable {K : PySem.W.Frag} {σ : L2.St} {H : Hp} {te : TE} {t : TT}
/-- [.. for x in xs]: xs a list that stays -/
theorem el_lcL {a : Addr} {xs : List V} {tl : TE} {j : Nat} {vs : List Nat} (f : Nat → Bool) (v : Nat → V)
    (h : Ev tl σ H (.ref a)) (hx : SqL K H a xs) (hz : xs.length ≤ 40000) (hw : ∀ x, wipe ((wipe σ vs).set j (some x)) vs = wipe σ vs)
    (ht : ∀ (i : Nat) (x : V) H1, Same H H1 → xs[i]? = some x → EvT t ((wipe σ vs).set j (some x)) H1 (f i)) (he : ∀ (i : Nat) (x : V) H1, Same H H1 → xs[i]? = some x → f i = true → Ev te ((wipe σ vs).set j (some x)) H1 (v i)) :
    EvL (tLc (iList K tl) (gName j) t te vs) σ H (given xs.length f v) := Evl.el_lcL f v h hx hz hw (fun i x H1 e q => ht i x H1 e q) fun i x H1 e q z => he i x H1 e q z
theorem ev_lenS {ta : TE} {p : Addr} {xs : List V} (ha : Ev ta σ H (.ref p)) (h : SqL K H p xs ∨ SqT K H p xs) : Ev (tCB (fun xs H Q => ∃ p ys, xs = [.ref p] ∧ (SqL K H p ys ∨ SqT K H p ys) ∧ Q (.int ys.length) H) (tCons ta tNil)) σ H (.int (xs.length : Int)) := fun H1 e Q q =>
  ha H1 e _ fun H2 e2 => ⟨p, xs, rfl, h.imp (ex_l (e.trans e2)) (ex_t (e.trans e2)), q H2 e2⟩
theorem rv_is {r : R2} {x y z z2 : V} (h : RV r x y H z) (e : z = z2) : RV r x y H z2 := by rw [← e]; exact h
theorem ne_int {i j : Int} : RV rNe (.int i) (.int j) H (.bl (!decide (i = j))) := by
  refine rv_is (Evl.rv_ne rfl) ?_
  by_cases h : i = j
  · subst h; simp
  · have : ¬ (V.int i = V.int j) := fun z => h (V.int.inj z)
    simp [h, this]
theorem eq_int {i j : Int} : RV rEq (.int i) (.int j) H (.bl (decide (i = j))) := by
  refine rv_is (Evl.rv_eq rfl) ?_
  by_cases h : i = j
  · subst h; simp
  · have : ¬ (V.int i = V.int j) := fun z => h (V.int.inj z)
    simp [h, this]
theorem el_is {te : TE} {xs ys : List V} (h : EvL te σ H xs) (e : xs = ys) : EvL te σ H ys := by rw [← e]; exact h
end
end HX

set_option maxRecDepth 100000
set_option maxHeartbeats 3000000
namespace HX
open PySem PySem.Spec PyProof.Rows L2 Evl
def rLenK (K : PySem.W.Frag) : List V → Hp → VK → Prop := fun xs H Q => ∃ p ys, xs = [.ref p] ∧ (SqL K H p ys ∨ SqT K H p ys) ∧ Q (.int ys.length) H
def rLenD0 : List V → Hp → VK → Prop := fun xs H Q => ∃ a kvs, xs = [V.ref a] ∧ H a = some (.dK kvs) ∧ Q (.int kvs.length) H
section
variable {X : Cx}
theorem lenK (K : PySem.W.Frag) (h : X.K = K := by rfl) : CallR X (.builtin "len") (rLenK K) := by subst h; exact call_len_seq
theorem ixL (K : PySem.W.Frag) (h : X.K = K := by rfl) : IxR X (rIxL K) := by subst h; exact ix_list
theorem ixT (K : PySem.W.Frag) (h : X.K = K := by rfl) : IxR X (rIxT K) := by subst h; exact ix_tup
theorem allK (K : PySem.W.Frag) (hc : X.calm = true) (h : X.K = K := by rfl) : CallR X (.builtin "all") (rAll K) := by subst h; exact cr_all hc
theorem listOfK (K : PySem.W.Frag) (h : X.K = K := by rfl) : CallR X (.type "list") (Evl.rListS K) := by subst h; exact call_list_of
theorem pe_fldK (K : PySem.W.Frag) {o : Expr} {f : Str} {pos : Pos} {ta : TE} (ha : PE X o ta) (hb : attributeBase o f X.env (eval o X.env) = eval o X.env := by rfl) (h : X.K = K := by rfl) : PE X (.Attribute o f pos) (tFld K ta f) := by subst h; exact pe_fld ha hb
theorem isiK (K : PySem.W.Frag) (h : X.K = K := by rfl) : CallR X (.builtin "isinstance") (rIsi K) := by subst h; exact call_isi
end
section
variable {K : PySem.W.Frag} {σ : L2.St} {H : Hp}
theorem ev_lenK {ta : TE} {p : Addr} {xs : List V} (ha : Ev ta σ H (.ref p)) (h : SqL K H p xs ∨ SqT K H p xs) : Ev (tCB (rLenK K) (tCons ta tNil)) σ H (.int (xs.length : Int)) := ev_lenS ha h
theorem el_lock {t : TE} {d : Addr} {u : HO} {xs : List V} (hd : H d = some u) (mu : Mut (some u)) (h : ∀ od, EvL t σ (upd H d (.frz od u)) xs) : EvL (tLockE t) σ H xs := fun H1 e Q q => by
  have h1 : H1 d = some u := e _ _ hd
  refine ⟨d, u, h1, mu, fun od => h od (upd H1 d (.frz od u)) (fun b o hb => ?_) _ fun p H2 np e2 hp => ?_⟩
  · by_cases hbd : b = d
    · subst hbd
      rw [upd_same] at hb ⊢
      exact hb
    · rw [upd_ne hbd] at hb ⊢
      exact e _ _ hb
  · have npd : p ≠ d := fun z => by
      rw [z, upd_same] at np
      cases np
    rw [upd_ne npd] at np
    refine ⟨e2 _ _ upd_same, q p _ np (fun b o hb => ?_) ?_⟩
    · by_cases hbd : b = d
      · subst hbd
        rw [upd_same, ← hb, h1]
      · rw [upd_ne hbd]
        exact e2 _ _ (by rw [upd_ne hbd]; exact hb)
    · rw [upd_ne npd]
      exact hp
theorem ev_dget {td ty : TE} {a : Addr} {y v : V} (hd : Ev td σ H (.ref a)) (hk : Ev ty σ H y) (g : ∀ H1, Same H H1 → DGet H1 a y (some v)) : Ev (tDGet td ty) σ H v := fun H1 e Q q =>
  hd H1 e _ fun H2 e2 => hk H2 (e.trans e2) _ fun H3 e3 => ⟨a, v, rfl, g H3 ((e.trans e2).trans e3), q H3 (e2.trans e3)⟩
theorem valV_at : ∀ {kvs : List (Key × V)} {i : Nat} {k : Key} {v : V}, (kvs.map (·.1)).Nodup → kvs[i]? = some (k, v) → valV kvs k = some v
  | [], _, _, _, _, e => by simp at e
  | p :: r, 0, k, v, _, e => by
    have e' : p = (k, v) := by simpa using e
    subst e'
    exact valV_pos rfl
  | p :: r, i + 1, k, v, nd, e => by
    have e' : r[i]? = some (k, v) := by simpa using e
    have nd' : p.1 ∉ r.map (·.1) ∧ (r.map (·.1)).Nodup := by simpa using nd
    have hm : k ∈ r.map (·.1) := List.mem_map.mpr ⟨(k, v), List.mem_of_getElem? e', rfl⟩
    rw [valV_neg (fun z => nd'.1 (by rw [z]; exact hm))]
    exact valV_at nd'.2 e'
theorem ev_lenD {ta : TE} {d : Addr} {kvs : List (Key × V)} (ha : Ev ta σ H (.ref d)) (h : H d = some (.dK kvs)) : Ev (tCB rLenD0 (tCons ta tNil)) σ H (.int (kvs.length : Int)) := fun H1 e Q q =>
  ha H1 e _ fun H2 e2 => ⟨d, kvs, rfl, (e.trans e2) _ _ h, q H2 e2⟩
end
end HX

set_option maxRecDepth 100000
set_option maxHeartbeats 3000000
namespace HX
open PySem PySem.Spec PyProof.Rows L2 Evl
/-- a new list of new lists, the i-th of xss i -/
def EvLL (te : TE) (σ : L2.St) (H : Hp) (n : Nat) (xss : Nat → List V) : Prop := ∀ H1, Same H H1 → ∀ Q : VK,
  (∀ p H2 (ps : List Addr), H1 p = none → Same H1 H2 → H2 p = some (.lst (ps.map V.ref)) → ps.length = n → (∀ (i : Nat) q, ps[i]? = some q → H1 q = none ∧ q ≠ p ∧ H2 q = some (.lst (xss i))) → Q (.ref p) H2) → te σ H1 Q
/-- a new dict of new lists -/
def EvDL (te : TE) (σ : L2.St) (H : Hp) (ks : List Key) (xss : Nat → List V) : Prop := ∀ H1, Same H H1 → ∀ Q : VK,
  (∀ p H2 (ps : List Addr), H1 p = none → Same H1 H2 → H2 p = some (.dK (ks.zip (ps.map V.ref))) → ps.length = ks.length → (∀ (i : Nat) q, ps[i]? = some q → H1 q = none ∧ q ≠ p ∧ H2 q = some (.lst (xss i))) → Q (.ref p) H2) → te σ H1 Q
theorem yesT {σ : L2.St} {H : Hp} {A B : Hp → Prop} (h : A H) : tYes σ H (fun b H3 => if b = true then A H3 else B H3) := iteT (B := B H) h
section
variable {K : PySem.W.Frag} {σ : L2.St} {H : Hp} {te tk : TE}
theorem ps_more {ps : List Addr} {xss : Nat → List V} {H1 H4 : Hp} {D q : Addr} {o : HO} (h1 : H1 q = none) (hq : q ≠ D) (h4 : H4 q = some (.lst (xss ps.length)))
    (h : ∀ (j : Nat) q, ps[j]? = some q → H1 q = none ∧ q ≠ D ∧ H4 q = some (.lst (xss j))) : ∀ (j : Nat) q', (ps ++ [q])[j]? = some q' → H1 q' = none ∧ q' ≠ D ∧ upd H4 D o q' = some (.lst (xss j)) := fun j q' hj => by
  rw [List.getElem?_append] at hj
  split at hj
  · obtain ⟨a, b, c⟩ := h j q' hj
    exact ⟨a, b, by rw [upd_ne b]; exact c⟩
  · rename_i hlt
    have e : j = ps.length := by
      have : (j - ps.length) < 1 := by
        rcases Nat.lt_or_ge (j - ps.length) 1 with z | z
        · exact z
        · rw [List.getElem?_eq_none (by simpa using z)] at hj
          cases hj
      omega
    subst e
    simp at hj
    subst hj
    exact ⟨h1, hq, by rw [upd_ne hq]; exact h4⟩
theorem ell_lcW {wi : TI} {J : It} {n : Nat} {G : Hp → Prop} {Y : Nat → Hp → V → Hp → Prop} (w : Walk J n G Y) {j : Nat} {vs : List Nat} (xss : Nat → List V)
    (hwi : ∀ H1, Same H H1 → ∀ R : It → Hp → Prop, (∀ H2, Same H1 H2 → R J H2) → wi σ H1 R) (hG : ∀ H1, Same H H1 → G H1) (hY : ∀ i H1 x H2, Y i H1 x H2 → H2 = H1) (hn : n ≤ 40000)
    (hw : ∀ x, wipe ((wipe σ vs).set j (some x)) vs = wipe σ vs)
    (he : ∀ (i : Nat) (x : V) H1, Same H H1 → i < n → Y i H1 x H1 → EvL te ((wipe σ vs).set j (some x)) H1 (xss i)) :
    EvLL (tLc wi (gName j) tYes te vs) σ H n xss := fun H0 e Q q => hwi H0 e _ fun H1 e1 Dl hD =>
  lc_it w (Qd := fun H' => Q (.ref Dl) H') (fun i H' => H1 Dl = none ∧ Same H1 H' ∧ ∃ ps : List Addr, H' Dl = some (.lst (ps.map V.ref)) ∧ ps.length = i ∧ ∀ (j : Nat) q, ps[j]? = some q → H1 q = none ∧ q ≠ Dl ∧ H' q = some (.lst (xss j)))
    ⟨hD, Ex.new hD, [], upd_same, rfl, fun j q h => by simp at h⟩ (fun i H' _ p => hG H' ((Same.trans e e1).trans p.2.1)) (fun i x H' H'' hi p y => by
      have e2 := hY i H' x H'' y
      subst e2
      obtain ⟨p1, p2, ps, p3, p4, p5⟩ := p
      have eH := (Same.trans e e1).trans p2
      refine ⟨hw x, ?_⟩
      refine yesT ?_
      refine he i x H'' eH hi y H'' (Ex.refl _) _ fun q H4 hq e4 h4 => ⟨ps.map V.ref, e4 Dl _ p3, sz_lt (by rw [List.length_map]; omega), p1, Ex.mut (Ex.trans p2 e4) p1, ps ++ [q], ?_, ?_, ?_⟩
      · rw [List.map_append]
        exact upd_same
      · rw [List.length_append, p4]
        rfl
      · subst p4
        exact ps_more (fresh_back p2 hq) (fun z => by rw [z, p3] at hq; cases hq) h4 fun j q' hj => by
          obtain ⟨a, b, c⟩ := p5 j q' hj
          exact ⟨a, b, e4 _ _ c⟩)
    (fun H' p => by
      obtain ⟨p1, p2, ps, p3, p4, p5⟩ := p
      exact q Dl H' ps (fresh_back e1 p1) (e1.trans p2) p3 p4 fun i q' hi => by
        obtain ⟨a, b, c⟩ := p5 i q' hi
        exact ⟨fresh_back e1 a, b, c⟩)
theorem zip_snoc {q : Addr} {k : Key} : ∀ {ks : List Key} {ps : List Addr}, ks[ps.length]? = some k → ks.zip ((ps ++ [q]).map V.ref) = ks.zip (ps.map V.ref) ++ [(k, V.ref q)]
  | [], ps, h => by simp at h
  | k0 :: ks, [], h => by
    have e : k0 = k := by simpa using h
    subst e
    simp
  | k0 :: ks, p :: ps, h => by
    have h' : ks[ps.length]? = some k := by simpa using h
    have ih := zip_snoc (q := q) (ks := ks) (ps := ps) h'
    simp only [List.cons_append, List.map_cons, List.zip_cons_cons]
    rw [ih]
theorem fst_zip {α β : Type} : ∀ (xs : List α) (ys : List β), (xs.zip ys).map (·.1) = xs.take ys.length
  | [], _ => by simp
  | _ :: _, [] => by simp
  | x :: xs, y :: ys => by
    simp only [List.zip_cons_cons, List.map_cons, List.length_cons, List.take_succ_cons]
    rw [fst_zip xs ys]
/-- {name: [..] for name in t}, t a tuple of different texts -/
theorem edl_dcT {a : Addr} {tl : TE} {names : List Str} {j : Nat} {vs : List Nat} (xss : Nat → List V) (h : Ev tl σ H (.ref a)) (hx : SqT K H a (names.map V.str)) (hn : names.length ≤ 40000) (nd : names.Nodup)
    (hw : ∀ x, wipe ((wipe σ vs).set j (some x)) vs = wipe σ vs) (hk : ∀ x H1, Same H H1 → Ev tk ((wipe σ vs).set j (some (.str x))) H1 (.str x))
    (he : ∀ (i : Nat) (x : Str) H1, Same H H1 → names[i]? = some x → EvL te ((wipe σ vs).set j (some (.str x))) H1 (xss i)) :
    EvDL (tDc (iTup K tl) (gName j) tYes tk te vs) σ H (names.map Sum.inr) xss := fun H0 e Q q => h H0 e _ fun H1 e1 => ⟨a, rfl, ⟨_, ex_t (e.trans e1) hx⟩, fun Dl hD =>
  dc_tup (K := K) (a := a) (xs := names.map V.str) (Qd := fun H' => Q (.ref Dl) H') (fun i H' => H1 Dl = none ∧ Same H1 H' ∧ ∃ ps : List Addr, H' Dl = some (.dK ((names.map Sum.inr).zip (ps.map V.ref))) ∧ ps.length = i ∧ ∀ (j : Nat) q, ps[j]? = some q → H1 q = none ∧ q ≠ Dl ∧ H' q = some (.lst (xss j)))
    ⟨hD, Ex.new hD, [], by rw [List.map_nil, List.zip_nil_right]; exact upd_same, rfl, fun j q h => by simp at h⟩ (fun i H' _ p => ex_t ((Same.trans e e1).trans p.2.1) hx) (fun i y H' hi p => by
      obtain ⟨x, hx0, rfl⟩ : ∃ x, names[i]? = some x ∧ y = V.str x := by
        rw [List.getElem?_map] at hi
        cases hh : names[i]? with
        | none => rw [hh] at hi; cases hi
        | some x => rw [hh] at hi; exact ⟨x, rfl, (Option.some.inj hi).symm⟩
      obtain ⟨p1, p2, ps, p3, p4, p5⟩ := p
      have eH := (Same.trans e e1).trans p2
      have hil : i < names.length := (List.getElem?_eq_some_iff.mp hx0).1
      refine ⟨hw _, ?_⟩
      refine yesT ?_
      refine hk x H' eH H' (Ex.refl _) _ fun H3 e3 => ?_
      refine he i x H3 (Same.trans eH e3) hx0 H3 (Ex.refl _) _ fun q H4 hq e4 h4 => ⟨_, Sum.inr x, rfl, e4 Dl _ (e3 Dl _ p3), sz_lt (by rw [List.length_zip]; simp; omega), p1, Ex.mut (Ex.trans (Ex.trans p2 e3) e4) p1, ps ++ [q], ?_, ?_, ?_⟩
      · have hnot : valV ((names.map Sum.inr).zip (ps.map V.ref)) (Sum.inr x : Key) = none := by
          cases hv : valV ((names.map Sum.inr).zip (ps.map V.ref)) (Sum.inr x : Key) with
          | none => rfl
          | some v =>
            have hm := valV_in hv
            have e0 : ((names.map (Sum.inr : Str → Key)).zip (ps.map V.ref)).map (·.1) = (names.map (Sum.inr : Str → Key)).take i := by
              rw [← p4, ← List.length_map (f := V.ref) (as := ps)]
              exact fst_zip _ _
            rw [e0, ← List.map_take] at hm
            obtain ⟨z, hz, ez⟩ := List.mem_map.mp hm
            have ez' : z = x := Sum.inr.inj ez
            subst ez'
            obtain ⟨j', hj', ej'⟩ := List.getElem_of_mem hz
            rw [List.length_take] at hj'
            rw [List.getElem_take] at ej'
            have e3' : names[i] = z := by
              rw [List.getElem?_eq_getElem hil] at hx0
              exact Option.some.inj hx0
            have := (List.getElem_inj nd).mp (ej'.trans e3'.symm)
            omega
        rw [putK_new _ hnot, zip_snoc (k := Sum.inr x) (by rw [p4, List.getElem?_map, hx0]; rfl)]
        exact upd_same
      · rw [List.length_append, p4]
        rfl
      · subst p4
        exact ps_more (fresh_back p2 (fresh_back e3 hq)) (fun z => by
          have z2 := e3 Dl _ p3
          rw [z, z2] at hq
          cases hq) h4 fun j q' hj => by
          obtain ⟨a, b, c⟩ := p5 j q' hj
          exact ⟨a, b, e4 _ _ (e3 _ _ c)⟩)
    (fun H' p => by
      obtain ⟨p1, p2, ps, p3, p4, p5⟩ := p
      exact q Dl H' ps (fresh_back e1 p1) (e1.trans p2) p3 (by rw [p4, List.length_map, List.length_map]) fun i q' hi => by
        obtain ⟨a, b, c⟩ := p5 i q' hi
        exact ⟨fresh_back e1 a, b, c⟩)⟩
end
end HX
namespace HX
open PySem PySem.Spec PyProof.Rows L2 Evl
section
variable {K : PySem.W.Frag} {σ : L2.St} {H : Hp} {ta tv : TE} {D : Ends} {a C dx : Addr} {fs : List (Str × V)} {f : Str} {y : V}
theorem s_fld (hv : Ev tv σ H y) (ha : Ev ta σ H (.ref a)) (ho : H a = some (.ins C dx fs)) (cl : Cls K C) (nf : NoAttr K C f) (hl : fs.length < 1000) (k : ∀ H1, Same H H1 → D.nx σ (upd H1 a (.ins C dx (putF f y fs)))) : sFld K ta tv f D σ H :=
  hv H (Same.refl H) _ fun H1 e1 => ha H1 e1 _ fun H2 e2 => ⟨a, C, dx, fs, rfl, e2 _ _ (e1 _ _ ho), cl, nf, hl, k H2 (Same.trans e1 e2)⟩
theorem s_fldLL {n : Nat} {xss : Nat → List V} (hv : EvLL tv σ H n xss) (ha : Ev ta σ H (.ref a)) (ho : H a = some (.ins C dx fs)) (cl : Cls K C) (nf : NoAttr K C f) (hl : fs.length < 1000)
    (k : ∀ p H1 (ps : List Addr), H p = none → Same H H1 → H1 p = some (.lst (ps.map V.ref)) → ps.length = n → (∀ (i : Nat) q, ps[i]? = some q → H q = none ∧ q ≠ p ∧ H1 q = some (.lst (xss i))) → D.nx σ (upd H1 a (.ins C dx (putF f (.ref p) fs)))) : sFld K ta tv f D σ H :=
  hv H (Same.refl H) _ fun p H1 ps np e1 hp hn hq => ha H1 e1 _ fun H2 e2 => ⟨a, C, dx, fs, rfl, e2 _ _ (e1 _ _ ho), cl, nf, hl, k p H2 ps np (Same.trans e1 e2) (e2 _ _ hp) hn fun i q h => let ⟨z1, z2, z3⟩ := hq i q h; ⟨z1, z2, e2 _ _ z3⟩⟩
theorem s_fldDL {ks : List Key} {xss : Nat → List V} (hv : EvDL tv σ H ks xss) (ha : Ev ta σ H (.ref a)) (ho : H a = some (.ins C dx fs)) (cl : Cls K C) (nf : NoAttr K C f) (hl : fs.length < 1000)
    (k : ∀ p H1 (ps : List Addr), H p = none → Same H H1 → H1 p = some (.dK (ks.zip (ps.map V.ref))) → ps.length = ks.length → (∀ (i : Nat) q, ps[i]? = some q → H q = none ∧ q ≠ p ∧ H1 q = some (.lst (xss i))) → D.nx σ (upd H1 a (.ins C dx (putF f (.ref p) fs)))) : sFld K ta tv f D σ H :=
  hv H (Same.refl H) _ fun p H1 ps np e1 hp hn hq => ha H1 e1 _ fun H2 e2 => ⟨a, C, dx, fs, rfl, e2 _ _ (e1 _ _ ho), cl, nf, hl, k p H2 ps np (Same.trans e1 e2) (e2 _ _ hp) hn fun i q h => let ⟨z1, z2, z3⟩ := hq i q h; ⟨z1, z2, e2 _ _ z3⟩⟩
theorem ev_fld {v : V} (ha : Ev ta σ H (.ref a)) (ho : H a = some (.ins C dx fs)) (cl : Cls K C) (nf : NoAttr K C f) (hl : fs.lookup f = some v) : Ev (tFld K ta f) σ H v := fun H1 e Q q =>
  ha H1 e _ fun H2 e2 => ⟨a, C, dx, fs, v, rfl, (e.trans e2) _ _ ho, cl, nf, hl, q H2 e2⟩
end
end HX

set_option maxRecDepth 100000
set_option maxHeartbeats 3000000
namespace HX
open PySem PySem.Spec PyProof.Rows L2
/-! ### data -/
inductive D where
  | non | bl (b : Bool) | int (i : Int) | str (x : Str) | lst (l : List D) | tup (l : List D) | dic (l : List (Key × D))
inductive Kd where
  | non | bl | int | str | lst | tup | dic
  deriving DecidableEq
def Kd.nm : Kd → String
  | .non => "NoneType" | .bl => "bool" | .int => "int" | .str => "str" | .lst => "list" | .tup => "tuple" | .dic => "dict"
def D.kd : D → Kd
  | .non => .non | .bl _ => .bl | .int _ => .int | .str _ => .str | .lst _ => .lst | .tup _ => .tup | .dic _ => .dic
mutual
def D.nd : D → Bool
  | .lst l => ndAll l
  | .tup l => ndAll l
  | .dic _ => false
  | _ => true
def ndAll : List D → Bool
  | [] => true
  | d :: r => d.nd && ndAll r
end
/-- a dict's values hold no dict -/
def kvOk : D → Bool
  | .dic l => l.all fun p => p.2.nd
  | _ => true
def keyD : Key → D
  | .inl i => .int i
  | .inr x => .str x
mutual
inductive Dq (H : Hp) : V → D → Prop
  | non : Dq H .non .non
  | bl (b : Bool) : Dq H (.bl b) (.bl b)
  | int (i : Int) : Dq H (.int i) (.int i)
  | str (x : Str) (hx : x.length ≤ 1000) : Dq H (.str x) (.str x)
  | lst {a : Addr} {xs : List V} {ds : List D} : H a = some (.lst xs) → DqAll H xs ds → Dq H (.ref a) (.lst ds)
  | tup {a : Addr} {xs : List V} {ds : List D} : H a = some (.tup xs) → DqAll H xs ds → Dq H (.ref a) (.tup ds)
  | dic {a : Addr} {kvs : List (Key × V)} {ds : List (Key × D)} : H a = some (.dK kvs) → (kvs.map (·.1)).Nodup → DqKv H kvs ds → Dq H (.ref a) (.dic ds)
inductive DqAll (H : Hp) : List V → List D → Prop
  | nil : DqAll H [] []
  | cons {v : V} {vs : List V} {d : D} {ds : List D} : Dq H v d → DqAll H vs ds → DqAll H (v :: vs) (d :: ds)
inductive DqKv (H : Hp) : List (Key × V) → List (Key × D) → Prop
  | nil : DqKv H [] []
  | cons {k : Key} {v : V} {vs : List (Key × V)} {d : D} {ds : List (Key × D)} : Dq H (kV k) (keyD k) → Dq H v d → DqKv H vs ds → DqKv H ((k, v) :: vs) ((k, d) :: ds)
end
section
variable {H H' : Hp}
mutual
theorem Dq.same (s : Same H H') : ∀ {v : V} {d : D}, Dq H v d → Dq H' v d
  | _, _, .non => .non
  | _, _, .bl b => .bl b
  | _, _, .int i => .int i
  | _, _, .str x hx => .str x hx
  | _, _, .lst h r => .lst (s _ _ h) (DqAll.same s r)
  | _, _, .tup h r => .tup (s _ _ h) (DqAll.same s r)
  | _, _, .dic h n r => .dic (s _ _ h) n (DqKv.same s r)
theorem DqAll.same (s : Same H H') : ∀ {vs : List V} {ds : List D}, DqAll H vs ds → DqAll H' vs ds
  | _, _, .nil => .nil
  | _, _, .cons h r => .cons (Dq.same s h) (DqAll.same s r)
theorem DqKv.same (s : Same H H') : ∀ {vs : List (Key × V)} {ds : List (Key × D)}, DqKv H vs ds → DqKv H' vs ds
  | _, _, .nil => .nil
  | _, _, .cons k h r => .cons (Dq.same s k) (Dq.same s h) (DqKv.same s r)
end
theorem DqAll.length : ∀ {vs : List V} {ds : List D}, DqAll H vs ds → vs.length = ds.length
  | _, _, .nil => rfl
  | _, _, .cons _ r => congrArg (· + 1) r.length
theorem DqKv.length : ∀ {vs : List (Key × V)} {ds : List (Key × D)}, DqKv H vs ds → vs.length = ds.length
  | _, _, .nil => rfl
  | _, _, .cons _ _ r => congrArg (· + 1) r.length
theorem DqAll.get : ∀ {vs : List V} {ds : List D} {i : Nat} {v : V}, DqAll H vs ds → vs[i]? = some v → ∃ d, ds[i]? = some d ∧ Dq H v d
  | _, _, _, _, .nil, at_ => by simp at at_
  | _, _, 0, _, .cons h _, e => by simp at e; subst e; exact ⟨_, rfl, h⟩
  | _, _, i + 1, v, .cons _ r, e => by
    obtain ⟨d, h1, h2⟩ := DqAll.get (i := i) (v := v) r (by simpa using e)
    exact ⟨d, by simpa using h1, h2⟩
theorem DqAll.get' : ∀ {vs : List V} {ds : List D} {i : Nat} {d : D}, DqAll H vs ds → ds[i]? = some d → ∃ v, vs[i]? = some v ∧ Dq H v d
  | _, _, _, _, .nil, at_ => by simp at at_
  | _, _, 0, _, .cons h _, e => by simp at e; subst e; exact ⟨_, rfl, h⟩
  | _, _, i + 1, d, .cons _ r, e => by
    obtain ⟨v, h1, h2⟩ := DqAll.get' (i := i) (d := d) r (by simpa using e)
    exact ⟨v, by simpa using h1, h2⟩
theorem DqKv.get : ∀ {vs : List (Key × V)} {ds : List (Key × D)} {i : Nat} {p : Key × V}, DqKv H vs ds → vs[i]? = some p → ∃ d, ds[i]? = some (p.1, d) ∧ Dq H (kV p.1) (keyD p.1) ∧ Dq H p.2 d
  | _, _, _, _, .nil, at_ => by simp at at_
  | _, _, 0, _, .cons k h _, e => by simp at e; subst e; exact ⟨_, rfl, k, h⟩
  | _, _, i + 1, p, .cons _ _ r, e => by
    obtain ⟨d, h1, h2⟩ := DqKv.get (i := i) (p := p) r (by simpa using e)
    exact ⟨d, by simpa using h1, h2⟩
end

section
variable {H : Hp} {a : Addr} {kv0 : List (Key × V)} {od : Obj}
mutual
theorem Dq.lock (e : H a = some (.dK kv0)) : ∀ {v : V} {d : D}, d.nd = true → Dq H v d → Dq (upd H a (.frz od (.dK kv0))) v d
  | _, _, _, .non => .non
  | _, _, _, .bl b => .bl b
  | _, _, _, .int i => .int i
  | _, _, _, .str x hx => .str x hx
  | _, _, n, .lst h r => .lst (by rw [upd_ne (ne_of h e (by intro z; cases z))]; exact h) (DqAll.lock e (by rw [D.nd] at n; exact n) r)
  | _, _, n, .tup h r => .tup (by rw [upd_ne (ne_of h e (by intro z; cases z))]; exact h) (DqAll.lock e (by rw [D.nd] at n; exact n) r)
  | _, _, n, .dic _ _ _ => by rw [D.nd] at n; cases n
theorem DqAll.lock (e : H a = some (.dK kv0)) : ∀ {vs : List V} {ds : List D}, ndAll ds = true → DqAll H vs ds → DqAll (upd H a (.frz od (.dK kv0))) vs ds
  | _, _, _, .nil => .nil
  | _, _, n, .cons h r => by
    rw [ndAll, Bool.and_eq_true_iff] at n
    exact .cons (Dq.lock e n.1 h) (DqAll.lock e n.2 r)
end
end
theorem keyD_nd {k : Key} : (keyD k).nd = true := by
  cases k with
  | inl i => show D.nd (.int i) = true; rw [D.nd] <;> intros <;> (first | rfl | (rename_i z; cases z))
  | inr x => show D.nd (.str x) = true; rw [D.nd] <;> intros <;> (first | rfl | (rename_i z; cases z))
/-- nothing changes but at x, where no data stands -/
def Bx (x : Addr) (H H' : Hp) : Prop := ∀ b o, b ≠ x → H b = some o → H' b = some o
theorem Bx.refl (x : Addr) (H : Hp) : Bx x H H := fun _ _ _ e => e
theorem Bx.trans {x : Addr} {H H1 H2 : Hp} (a : Bx x H H1) (b : Bx x H1 H2) : Bx x H H2 := fun c o h e => b c o h (a c o h e)
theorem Bx.of {x : Addr} {H H' : Hp} (s : Same H H') : Bx x H H' := fun b o _ e => s b o e
theorem Bx.upd {x : Addr} {H : Hp} {o : HO} : Bx x H (L2.upd H x o) := fun b u h e => by rw [upd_ne h]; exact e
/-- no data at x -/
def NoD (H : Hp) (x : Addr) : Prop := (∀ xs, H x ≠ some (.lst xs)) ∧ (∀ xs, H x ≠ some (.tup xs)) ∧ ∀ kvs, ¬ Rd H x (.dK kvs)
theorem NoD.ins {H : Hp} {x C dx : Addr} {fs : List (Str × V)} (h : H x = some (.ins C dx fs)) : NoD H x := by
  refine ⟨fun xs z => ?_, fun xs z => ?_, fun kvs z => ?_⟩
  · rw [h] at z; cases z
  · rw [h] at z; cases z
  · rcases z with z | ⟨o, z⟩
    · rw [h] at z; cases z
    · rw [h] at z; cases z
section
variable {H H' : Hp} {x : Addr}
mutual
theorem Dq.but (n : NoD H x) (k : Bx x H H') : ∀ {v : V} {d : D}, Dq H v d → Dq H' v d
  | _, _, .non => .non
  | _, _, .bl b => .bl b
  | _, _, .int i => .int i
  | _, _, .str y hx => .str y hx
  | _, _, .lst (a := b) h r => .lst (k b _ (fun z => n.1 _ (by rw [← z]; exact h)) h) (DqAll.but n k r)
  | _, _, .tup (a := b) h r => .tup (k b _ (fun z => n.2.1 _ (by rw [← z]; exact h)) h) (DqAll.but n k r)
  | _, _, .dic (a := b) h nd r => .dic (k b _ (fun z => n.2.2 _ (by rw [← z]; exact .inl h)) h) nd (DqKv.but n k r)
theorem DqAll.but (n : NoD H x) (k : Bx x H H') : ∀ {vs : List V} {ds : List D}, DqAll H vs ds → DqAll H' vs ds
  | _, _, .nil => .nil
  | _, _, .cons h r => .cons (Dq.but n k h) (DqAll.but n k r)
theorem DqKv.but (n : NoD H x) (k : Bx x H H') : ∀ {vs : List (Key × V)} {ds : List (Key × D)}, DqKv H vs ds → DqKv H' vs ds
  | _, _, .nil => .nil
  | _, _, .cons h0 h r => .cons (Dq.but n k h0) (Dq.but n k h) (DqKv.but n k r)
end
end
/-- a value's class, as isinstance sees it -/
theorem Dq.ty {K : PySem.W.Frag} {H : Hp} {v : V} {d : D} (h : Dq H v d) : TyX K H v (.type d.kd.nm) := by
  cases h with
  | non => exact .base .non
  | bl b => exact .base (.bl b)
  | int i => exact .base (.int i)
  | str x _ => exact .base (.str x)
  | lst h _ => exact .base (.lst h)
  | tup h _ => exact .base (.tup h)
  | dic h _ _ => exact .base (.dK h)
def Kd.sub : Kd → Kd → Bool
  | .bl, .int => true
  | a, b => decide (a = b)
theorem kit_sub {K : PySem.W.Frag} (a b : Kd) : PySem.W.kitOne K (.type a.nm) (.type b.nm) = some (a.sub b) := by
  cases a <;> cases b <;> exact kit_ty (by decide +kernel)
theorem dqAll_of {H : Hp} : ∀ {vs : List V} {ds : List D}, vs.length = ds.length → (∀ (i : Nat) v d, vs[i]? = some v → ds[i]? = some d → Dq H v d) → DqAll H vs ds
  | [], [], _, _ => .nil
  | [], _ :: _, odd, _ => by simp at odd
  | _ :: _, [], odd, _ => by simp at odd
  | v :: vs, d :: ds, h, f => .cons (f 0 v d rfl rfl) (dqAll_of (by simpa using h) fun i v d h1 h2 => f (i + 1) v d (by simpa using h1) (by simpa using h2))
theorem dqKv_of {H : Hp} : ∀ {ks : List Key} {vs : List V} {ds : List D}, vs.length = ks.length → ds.length = ks.length → (∀ k ∈ ks, Dq H (kV k) (keyD k)) → (∀ (i : Nat) v d, vs[i]? = some v → ds[i]? = some d → Dq H v d) → DqKv H (ks.zip vs) (ks.zip ds)
  | [], [], [], _, _, _, _ => .nil
  | [], [], _ :: _, _, h, _, _ => by simp at h
  | [], _ :: _, _, h, _, _, _ => by simp at h
  | _ :: _, [], _, h, _, _, _ => by simp at h
  | _ :: _, _ :: _, [], _, h, _, _ => by simp at h
  | k :: ks, v :: vs, d :: ds, h1, h2, hk, f => .cons (hk k List.mem_cons_self) (f 0 v d rfl rfl) (dqKv_of (by simpa using h1) (by simpa using h2) (fun k hk' => hk k (List.mem_cons_of_mem _ hk')) fun i v d h1 h2 => f (i + 1) v d (by simpa using h1) (by simpa using h2))
end HX

set_option maxRecDepth 100000
set_option maxHeartbeats 3000000
namespace K04
open PySem PySem.Spec PyProof.Rows L2 HX
def topS (i : Nat) : Stmt := PySem.Challenge.pw_latewise_k04_known_systems.main.body.getD i (.Pass ⟨0, 0, 0, 0⟩)
abbrev sIsInt : Stmt := topS 8
abbrev sInt : Stmt := topS 7
abbrev sIsName : Stmt := topS 9
theorem scIsInt : FnScope ["value", "least", "most"] ["value", "least", "most"] (defScope sIsInt) := ⟨rfl, rfl, rfl, by decide +kernel, rfl, by decide +kernel, by decide +kernel⟩
theorem scInt : FnScope ["value"] ["value"] (defScope sInt) := ⟨rfl, rfl, rfl, by decide +kernel, rfl, by decide +kernel, by decide +kernel⟩
theorem scIsName : FnScope ["value", "letter"] ["value"] (defScope sIsName) := ⟨rfl, rfl, rfl, by decide +kernel, rfl, by decide +kernel, by decide +kernel⟩
/-! ### the mirror -/
def isIntD (lo hi : Int) : D → Bool
  | .int i => decide (lo ≤ i) && decide (i ≤ hi)
  | _ => false
def letterOk (c : Nat) : Bool := decide (97 ≤ c) && decide (c ≤ 122)
def isNameS (x : Str) : Bool := decide (1 ≤ x.length) && decide (x.length ≤ 8) && x.cps.toList.all letterOk
def isNameD : D → Bool
  | .str x => isNameS x
  | _ => false
/-! ### what the top has: built-ins not hidden, the constants -/
structure Bt (mg : Str → Option Value) : Prop where
  isi : mg "isinstance" = none
  bool : mg "bool" = none
  int : mg "int" = none
  str : mg "str" = none
  list : mg "list" = none
  dict : mg "dict" = none
  tuple : mg "tuple" = none
  len : mg "len" = none
  all : mg "all" = none
  range : mg "range" = none
  sorted : mg "sorted" = none
  letters : ∃ t, mg "MOST_LETTERS" = some (.int 8 t)
section
variable {P : Program} {w : World} {K : PySem.W.Frag} {mg : Str → Option Value} {base : Heap}
/-- a called def -/
structure Cd (K : PySem.W.Frag) (mg : Str → Option Value) (x : Str) (st : Stmt) (ps : List Str) (f : Addr) (fd : FuncData) : Prop where
  F : L2.Fun K x x st f fd
  g : mg x = some (.ref f)
  b : Binds K fd ps []
/-- is_integer_within, with is_integer behind it -/
structure CdW (K : PySem.W.Frag) (mg : Str → Option Value) (f : Addr) (fd : FuncData) : Prop extends Cd K mg "is_integer_within" sIsInt ["value", "least", "most"] f fd where
  it : ∃ fT dT, Cd K mg "is_integer" sInt ["value"] fT dT
def isIntegerD : D → Bool
  | .int _ => true
  | _ => false
def spInt : Sp := fun vs H Q _ => ∃ v d, vs = [v] ∧ Dq H v d ∧ ∀ H', Same H H' → Q (.bl (isIntegerD d)) H'
theorem ok_int {f : Addr} {fd : FuncData} {k : Nat} (F : L2.Fun K "is_integer" "is_integer" sInt f fd) (T : Bt mg) : FnOk P w K mg base CX0 (k + 1) f fd ["value"] spInt := by
  refine F.ok scInt (fun vs H Q E h => ?_) (fun cdv A outer s H vs Q E hr h => ?_)
  · obtain ⟨v, d, rfl, _⟩ := h
    rfl
  · obtain ⟨v, d, rfl, hd, q⟩ := h
    refine ⟨_, pss_one (ps_ret (pe_and (pe_callB call_isi (by rfl) T.isi (by decide +kernel) (pa_cons (pv 0) (pa_cons (pe_bltn (v := .ty "int") (by rfl) T.int (by decide +kernel) rfl) pa_nil)))
        (pe_one (pe_not (pe_callB call_isi (by rfl) T.isi (by decide +kernel) (pa_cons (pv 0) (pa_cons (pe_bltn (v := .ty "bool") (by rfl) T.bool (by decide +kernel) rfl) pa_nil))))))), ?_⟩
    refine Evl.s_ret (v := .bl (d.kd.sub .int && !d.kd.sub .bl)) (Evl.ev_andV (ev_isi (Evl.ev_var rfl) Evl.ev_c (fun H1 e1 => (hd.same e1).ty) (kit_sub d.kd .int)) (fun _ => Evl.ev_notV (ev_isi (Evl.ev_var rfl) Evl.ev_c (fun H1 e1 => (hd.same e1).ty) (kit_sub d.kd .bl)))) (fun H1 e1 => ?_)
    have e : (d.kd.sub .int && !d.kd.sub .bl) = isIntegerD d := by cases d <;> rfl
    show Q (.bl (d.kd.sub .int && !d.kd.sub .bl)) H1
    rw [e]
    exact q H1 e1
def spIsInt : Sp := fun vs H Q _ => ∃ v d lo hi, vs = [v, .int lo, .int hi] ∧ Dq H v d ∧ ∀ H', Same H H' → Q (.bl (isIntD lo hi d)) H'
theorem ok_isInt {f : Addr} {fd : FuncData} {k : Nat} (c : CdW K mg f fd) (T : Bt mg) : FnOk P w K mg base CX0 (k + 2) f fd ["value", "least", "most"] spIsInt := by
  obtain ⟨fT, dT, cT⟩ := c.it
  have GT : FnOk P w K mg base CX0 (k + 1) fT dT ["value"] spInt := ok_int cT.F T
  refine c.F.ok scIsInt (fun vs H Q E h => ?_) (fun cdv A outer s H vs Q E hr h => ?_)
  · obtain ⟨v, d, lo, hi, rfl, _⟩ := h
    rfl
  · obtain ⟨v, d, lo, hi, rfl, hd, q⟩ := h
    refine ⟨_, pss_one (ps_ret (pe_and (pe_call GT hr (by rfl) cT.g cT.F.kp cT.b .nil pass0 (pa_cons (pv 0) pa_nil)) (pe_one (pe_chain op_le op_le (pv 1) (pv 0) (pv 2))))), ?_⟩
    refine Evl.s_ret (v := .bl (isIntD lo hi d)) (Evl.ev_is (Evl.ev_andV (a := isIntegerD d) (b := isIntD lo hi d) (Evl.ev_call (vs := [v]) (Evl.ea_cons (Evl.ev_var rfl) Evl.ea_nil) (fun H1 e1 Q1 q1 E1 => ⟨v, d, rfl, hd.same e1, fun H2 e2 => q1 H2 e2⟩)) (fun c1 => ?_)) ?_) (fun H1 e1 => q H1 e1)
    · cases d with
      | int i =>
        cases hd
        exact ev_chain (Evl.ev_var rfl) (Evl.ev_var rfl) Evl.rv_I0 (fun _ => Evl.ev_var rfl) (fun _ => Evl.rv_I0)
      | _ => cases c1
    · cases d <;> rfl

def leS (i j : Str) : Bool := !decide (j.cps.toList < i.cps.toList)
theorem sign_ok (c : Nat) : (leS ("a" : Str) ⟨#[c]⟩ && leS ⟨#[c]⟩ ("z" : Str)) = letterOk c := by
  have h1 : ("a" : Str).cps.toList = [97] := by decide +kernel
  have h2 : ("z" : Str).cps.toList = [122] := by decide +kernel
  unfold leS letterOk
  rw [h1, h2]
  have e1 : ([c] : List Nat) < [97] ↔ c < 97 := by simp [List.cons_lt_cons_iff]
  have e2 : ([122] : List Nat) < [c] ↔ 122 < c := by simp [List.cons_lt_cons_iff]
  have f1 : (!decide ([c] < [97])) = decide (97 ≤ c) := by
    by_cases h : c < 97
    · rw [decide_eq_true (e1.mpr h), decide_eq_false (by omega)]; rfl
    · rw [decide_eq_false (fun z => h (e1.mp z)), decide_eq_true (by omega)]; rfl
  have f2 : (!decide ([122] < [c])) = decide (c ≤ 122) := by
    by_cases h : 122 < c
    · rw [decide_eq_true (e2.mpr h), decide_eq_false (by omega)]; rfl
    · rw [decide_eq_false (fun z => h (e2.mp z)), decide_eq_true (by omega)]; rfl
  show ((!decide ([c] < [97])) && (!decide ([122] < [c]))) = _
  rw [f1, f2]
theorem all_map_range {x : Str} {f : Nat → Bool} : (((List.range x.cps.size).map fun i => f (x.cps.getD i 0)).all id) = x.cps.toList.all f := by
  have e : (List.range x.cps.size).map (fun i => x.cps.getD i 0) = x.cps.toList := by
    refine List.ext_getElem (by simp) fun i _ h2 => ?_
    have h3 : i < x.cps.size := by simpa using h2
    simp [h3]
  have e2 : ((List.range x.cps.size).map fun i => f (x.cps.getD i 0)) = (x.cps.toList).map f := by
    rw [← e, List.map_map]
    rfl
  rw [e2, List.all_map]
  rfl
def spIsName : Sp := fun vs H Q _ => ∃ v d, vs = [v] ∧ Dq H v d ∧ ∀ H', Same H H' → Q (.bl (isNameD d)) H'
theorem ok_isName {f : Addr} {fd : FuncData} {k : Nat} (F : L2.Fun K "is_name" "is_name" sIsName f fd) (T : Bt mg) : FnOk P w K mg base CX0 (k + 1) f fd ["value"] spIsName := by
  refine F.ok scIsName (fun vs H Q E h => ?_) (fun cdv A outer s H vs Q E hr h => ?_)
  · obtain ⟨v, d, rfl, _⟩ := h
    rfl
  · obtain ⟨v, d, rfl, hd, q⟩ := h
    obtain ⟨tk, mL⟩ := T.letters
    refine ⟨_, pss_cons (ps_if (PW.pt (pw_or (pt_not (pt_val (pe_callB call_isi (by rfl) T.isi (by decide +kernel) (pa_cons (pv 0) (pa_cons (pe_bltn (v := .ty "str") (by rfl) T.str (by decide +kernel) rfl) pa_nil)))))
        (pw_or1 (pt_not (pt_chain op_le op_le pe_int (pe_callB call_len_str (by rfl) T.len PySem.boot_len (pa_cons (pv 0) pa_nil)) (pe_glob (v := .int 8) rfl mL ⟨_, rfl⟩)))))) (pss_one (ps_ret pe_bl)) pss_nil)
      (pss_one (ps_ret (pe_callB (cr_all rfl) (by rfl) T.all (by decide +kernel) (pa_cons
        (pe_lc (own := [("letter", 1)]) (g := gName 1) (tt := tYes) rfl scIsName.nd (pi_str (pv 0)) (blkOk_by (own := [("letter", 1)]) (N := ["value", "letter"]) (sc := defScope sIsName) (by decide +kernel)) (fun _ _ _ _ _ => pg_name (i := 1) scIsName.nd rfl (Or.inl rfl)) (fun _ _ _ _ _ => pts_nil)
          (fun _ _ _ _ _ => pe_chain op_le_str op_le_str pe_str (pv 1) pe_str)) pa_nil)))), ?_⟩
    cases d with
    | str x =>
      cases hd with
      | str _ hx =>
      have hz : x.length ≤ sizeLine := Evl.sz_of (by omega)
      refine Evl.s_if (b := !(decide ((1 : Int) ≤ (x.length : Int)) && decide ((x.length : Int) ≤ 8))) (Evl.et_is (Evl.et_or (a := false) (b := !(decide ((1 : Int) ≤ (x.length : Int)) && decide ((x.length : Int) ≤ 8)))
          (Evl.et_not (a := true) (Evl.et_B (ev_isi (Evl.ev_var rfl) Evl.ev_c (fun H1 e1 => (Dq.str x hx).ty) (kit_sub .str .str))))
          (fun _ => Evl.et_not (Evl.et_test (ev_chain Evl.ev_c (ev_strlen (Evl.ev_var rfl) hz) Evl.rv_I0 (fun _ => Evl.ev_c) (fun _ => Evl.rv_I0))))) rfl) (fun c H1 e1 => ?_) (fun c H1 e1 => ?_)
      · refine q H1 e1 |> fun z => ?_
        have hn : isNameD (.str x) = false := by
          show (decide (1 ≤ x.length) && decide (x.length ≤ 8) && x.cps.toList.all letterOk) = false
          have c' : (decide ((1 : Int) ≤ (x.length : Int)) && decide ((x.length : Int) ≤ 8)) = false := (Bool.not_eq_true' _).mp c
          have e1 : decide ((1 : Int) ≤ (x.length : Int)) = decide (1 ≤ x.length) := by congr 1; simp; omega
          have e2 : decide ((x.length : Int) ≤ 8) = decide (x.length ≤ 8) := by congr 1; simp; omega
          rw [← e1, ← e2, c', Bool.false_and]
        rw [hn] at z
        exact z
      · dsimp only [tNext]
        refine Evl.s_ret (v := .bl (isNameD (.str x))) (Evl.ev_is (ev_all (bs := (List.range x.cps.size).map fun i => letterOk (x.cps.getD i 0)) ?_) ?_) (fun H2 e2 => by exact q H2 (Same.trans e1 e2))
        · rw [List.map_map]
          rw [← given_all (v := V.bl ∘ fun i => letterOk (x.cps.getD i 0))]
          refine el_lcW (walk_str (z := x)) (fun _ => true) _ (fun H2 e2 R r => ⟨_, rfl, x, rfl, r H2 (Same.refl H2)⟩) (fun _ _ => True.intro) (fun i H2 y H3 h => h.1) (by show x.cps.size ≤ 40000; have : x.cps.size = x.length := rfl; omega) (fun _ => rfl) (fun i y H2 e2 hi h => et_yes) (fun i y H2 e2 hi h _ => ?_)
          obtain ⟨_, c0, hc0, rfl⟩ := h
          have ec : x.cps.getD i 0 = c0 := by
            rw [Array.getD_eq_getD_getElem?, hc0]
            rfl
          show Evl.Ev _ _ H2 (V.bl (letterOk (x.cps.getD i 0)))
          rw [ec, ← sign_ok c0]
          exact ev_chain Evl.ev_c (Evl.ev_var rfl) rv_leS (fun _ => Evl.ev_c) (fun _ => rv_leS)
        · have c' : (decide ((1 : Int) ≤ (x.length : Int)) && decide ((x.length : Int) ≤ 8)) = true := (Bool.not_eq_false' _).mp c
          have e1 : decide ((1 : Int) ≤ (x.length : Int)) = decide (1 ≤ x.length) := by congr 1; simp; omega
          have e2 : decide ((x.length : Int) ≤ 8) = decide (x.length ≤ 8) := by congr 1; simp; omega
          show V.bl _ = V.bl (decide (1 ≤ x.length) && decide (x.length ≤ 8) && x.cps.toList.all letterOk)
          rw [← e1, ← e2, c', Bool.true_and, all_map_range]
    | _ =>
      refine Evl.s_if (b := true) (Evl.et_is (Evl.et_or (a := true) (b := true)
          (Evl.et_not (a := false) (Evl.et_B (ev_isi (Evl.ev_var rfl) Evl.ev_c (fun H1 e1 => (hd.same e1).ty) (kit_sub _ .str))))
          (fun z => nomatch z)) rfl) (fun c H1 e1 => ?_) (fun c H1 e1 => nomatch c)
      exact q H1 e1
end
end K04

set_option maxRecDepth 100000
set_option maxHeartbeats 3000000
namespace K04
open PySem PySem.Spec PyProof.Rows L2 HX
abbrev sSw : Stmt := topS 16
abbrev sSwF : Stmt := topS 17
abbrev sKi : Stmt := topS 18
abbrev sSe : Stmt := topS 19
theorem scSw : FnScope ["value", "mode"] ["value"] (defScope sSw) := ⟨rfl, rfl, rfl, by decide +kernel, rfl, by decide +kernel, by decide +kernel⟩
theorem scSwF : FnScope ["value", "mode", "modes", "cost"] ["value", "mode", "modes"] (defScope sSwF) := ⟨rfl, rfl, rfl, by decide +kernel, rfl, by decide +kernel, by decide +kernel⟩
theorem scKi : FnScope ["value", "modes", "name"] ["value", "modes"] (defScope sKi) := ⟨rfl, rfl, rfl, by decide +kernel, rfl, by decide +kernel, by decide +kernel⟩
theorem scSe : FnScope ["value", "modes", "served", "cost"] ["value", "modes"] (defScope sSe) := ⟨rfl, rfl, rfl, by decide +kernel, rfl, by decide +kernel, by decide +kernel⟩
/-! ### the mirror -/
def zeroAt (l : List D) (m : Nat) : Bool := match l[m]? with
  | some (.int i) => decide (i = 0)
  | _ => false
def swFrom (m n : Nat) : D → Bool
  | .lst l => decide (l.length = n) && (l.all (isIntD 0 4) && zeroAt l m)
  | _ => false
def areSw : D → Bool
  | .lst l => decide (1 ≤ l.length) && decide (l.length ≤ 4) && (List.range l.length).all fun m => swFrom m l.length (l.getD m .non)
  | _ => false
def notNon : D → Bool
  | .non => false
  | _ => true
def areSe (n : Nat) : D → Bool
  | .lst l => decide (l.length = n) && (decide (0 < (l.filter notNon).length) && (l.filter notNon).all (isIntD 0 4))
  | _ => false
def areKi (n : Nat) : D → Bool
  | .dic l => decide (1 ≤ l.length) && decide (l.length ≤ 4) && l.all fun p => isNameD (keyD p.1) && areSe n p.2
  | _ => false
section
variable {P : Program} {w : World} {K : PySem.W.Frag} {mg : Str → Option Value} {base : Heap}
/-- all bools of a range -/
theorem all_range {n : Nat} {f : Nat → Bool} : (((List.range n).map f).all id) = (List.range n).all f := by
  rw [List.all_map]
  rfl
theorem all_get {l : List D} {f : D → Bool} : ((List.range l.length).all fun i => f (l.getD i .non)) = l.all f := by
  have e : (List.range l.length).map (fun i => l.getD i .non) = l := by
    refine List.ext_getElem (by simp) fun i _ h2 => ?_
    simp [h2]
  calc ((List.range l.length).all fun i => f (l.getD i .non)) = (((List.range l.length).map (fun i => l.getD i .non)).all f) := by rw [List.all_map]; rfl
    _ = l.all f := by rw [e]
theorem getD_of {l : List D} {i : Nat} {d : D} (h : l[i]? = some d) : l.getD i .non = d := by
  rw [List.getD_eq_getElem?_getD, h]
  rfl
def spSwF : Sp := fun vs H Q _ => ∃ v d m n, vs = [v, .int (m : Nat), .int (n : Nat)] ∧ Dq H v d ∧ m < n ∧ n ≤ 1000 ∧ ∀ H', Same H H' → Q (.bl (swFrom m n d)) H'
theorem dec_nat {a b : Nat} : decide ((a : Int) = (b : Int)) = decide (a = b) := decide_eq_decide.mpr (by omega)
theorem ok_swF {f fI : Addr} {fd fdI : FuncData} {k : Nat} (F : L2.Fun K "are_switches_from" "are_switches_from" sSwF f fd) (T : Bt mg) (cI : CdW K mg fI fdI) (mC : ∃ t, mg "MOST_COST" = some (.int 4 t)) :
    FnOk P w K mg base CX0 (k + 3) f fd ["value", "mode", "modes"] spSwF := by
  have GI : FnOk P w K mg base CX0 (k + 2) fI fdI ["value", "least", "most"] spIsInt := ok_isInt cI T
  obtain ⟨tk, mC⟩ := mC
  refine F.ok scSwF (fun vs H Q E h => ?_) (fun cdv A outer s H vs Q E hr h => ?_)
  · obtain ⟨v, d, m, n, rfl, _⟩ := h
    rfl
  · obtain ⟨v, d, m, n, rfl, hd, hmn, hn, q⟩ := h
    refine ⟨_, pss_cons (ps_if (PW.pt (pw_or (pt_not (pt_val (pe_callB call_isi (by rfl) T.isi (by decide +kernel) (pa_cons (pv 0) (pa_cons (pe_bltn (v := .ty "list") (by rfl) T.list (by decide +kernel) rfl) pa_nil)))))
        (pw_or1 (pt_cmpR op_ne (pe_callB call_len_seq (by rfl) T.len PySem.boot_len (pa_cons (pv 0) pa_nil)) (pv 2) (nomark _))))) (pss_one (ps_ret pe_bl)) pss_nil)
      (pss_one (ps_ret (pe_and (pe_callB (cr_all rfl) (by rfl) T.all (by decide +kernel) (pa_cons
        (pe_lc (own := [("cost", 3)]) (g := gName 3) (tt := tYes) rfl scSwF.nd (pi_list (pv 0)) (blkOk_by (own := [("cost", 3)]) (N := ["value", "mode", "modes", "cost"]) (sc := defScope sSwF) (by decide +kernel)) (fun _ _ _ _ _ => pg_name (i := 3) scSwF.nd rfl (Or.inl rfl)) (fun _ _ _ _ _ => pts_nil)
          (fun _ _ _ _ _ => pe_call GI hr (by rfl) cI.g cI.F.kp cI.b .nil pass0 (pa_cons (pv 3) (pa_cons pe_int (pa_cons (pe_glob (v := .int 4) rfl mC ⟨_, rfl⟩) pa_nil))))) pa_nil))
        (pe_one (pe_cmpR op_eq (pe_ix ix_list (pv 0) (pv 1) (fun _ _ => rfl)) pe_int (nomark _)))))), ?_⟩
    cases d with
    | lst l =>
      obtain ⟨a, xs, rfl, ha, hl⟩ : ∃ a xs, v = .ref a ∧ H a = some (.lst xs) ∧ DqAll H xs l := by
        cases hd with
        | lst h r => exact ⟨_, _, rfl, h, r⟩
      have hlen := hl.length
      refine Evl.s_if (b := !decide (l.length = n)) (Evl.et_is (Evl.et_or (a := false) (b := !decide (l.length = n))
          (Evl.et_not (a := true) (Evl.et_B (ev_isi (Evl.ev_var rfl) Evl.ev_c (fun H1 e1 => (hd.same e1).ty) (kit_sub .lst .lst))))
          (fun _ => Evl.et_is (Evl.et_test (Evl.ev_op (ev_lenS (Evl.ev_var rfl) (.inl (Evl.sq_of ha))) (Evl.ev_var rfl) ne_int)) (by rw [hlen, dec_nat]))) rfl) (fun c H1 e1 => ?_) (fun c H1 e1 => ?_)
      · have c' : decide (l.length = n) = false := (Bool.not_eq_true' _).mp c
        have z : Q (.bl (decide (l.length = n) && (l.all (isIntD 0 4) && zeroAt l m))) H1 := q H1 e1
        rw [c', Bool.false_and] at z
        exact z
      · have c' : decide (l.length = n) = true := (Bool.not_eq_false' _).mp c
        have hln := of_decide_eq_true c'
        dsimp only [tNext]
        refine Evl.s_ret (v := .bl (swFrom m n (.lst l))) (Evl.ev_is (Evl.ev_andV (a := l.all (isIntD 0 4)) (b := zeroAt l m) (Evl.ev_is (ev_all (bs := (List.range l.length).map fun i => isIntD 0 4 (l.getD i .non)) ?_) (by rw [all_range, all_get])) (fun c2 => ?_)) ?_) (fun H2 e2 => q H2 (Same.trans e1 e2))
        · rw [List.map_map, ← hlen, ← given_all (v := V.bl ∘ fun i => isIntD 0 4 (l.getD i .non))]
          refine HX.el_lcL (a := a) (xs := xs) (fun _ => true) _ (Evl.ev_var rfl) (Evl.sq_of (e1 _ _ ha)) (by omega) (fun _ => rfl) (fun i y H2 e2 hi => et_yes) (fun i y H2 e2 hi _ => ?_)
          obtain ⟨d0, hd0, hq0⟩ := hl.get hi
          refine Evl.ev_call (vs := [y, .int 0, .int 4]) (Evl.ea_cons (Evl.ev_var rfl) (Evl.ea_cons Evl.ev_c (Evl.ea_cons Evl.ev_c Evl.ea_nil))) (fun H3 e3 Q3 q3 E3 => ⟨y, d0, 0, 4, rfl, hq0.same ((e1.trans e2).trans e3), fun H9 s9 => ?_⟩)
          have := q3 H9 s9
          show Q3 (V.bl (isIntD 0 4 d0)) H9
          rw [← getD_of hd0]
          exact this
        · obtain ⟨y, hy, hq⟩ : ∃ y, l[m]? = some y ∧ ∃ v, xs[m]? = some v ∧ Dq H v y := by
            have hm : m < l.length := by omega
            obtain ⟨v, h1, h2⟩ := hl.get' (List.getElem?_eq_getElem hm)
            exact ⟨l[m], List.getElem?_eq_getElem hm, v, h1, h2⟩
          obtain ⟨v, hv, hq⟩ := hq
          have hin : isIntD 0 4 y = true := List.all_eq_true.mp c2 y (List.mem_of_getElem? hy)
          cases y with
          | int i =>
            cases hq
            refine Evl.ev_is (Evl.ev_op (Evl.ev_op (Evl.ev_var rfl) (Evl.ev_var rfl) (Evl.rv_ixL (Evl.sq_of (e1 _ _ ha)) (atI_nat hv))) Evl.ev_c eq_int) ?_
            unfold zeroAt
            rw [hy]
          | _ => cases hin
        · show V.bl _ = V.bl (decide (l.length = n) && (l.all (isIntD 0 4) && zeroAt l m))
          rw [c', Bool.true_and]
    | _ =>
      refine Evl.s_if (b := true) (Evl.et_is (Evl.et_or (a := true) (b := true)
          (Evl.et_not (a := false) (Evl.et_B (ev_isi (Evl.ev_var rfl) Evl.ev_c (fun H1 e1 => (hd.same e1).ty) (kit_sub _ .lst))))
          (fun z => nomatch z)) rfl) (fun c H1 e1 => ?_) (fun c H1 e1 => nomatch c)
      exact q H1 e1

def spSw : Sp := fun vs H Q _ => ∃ v d, vs = [v] ∧ Dq H v d ∧ ∀ H', Same H H' → Q (.bl (areSw d)) H'
theorem dec14 {n : Nat} : (decide ((1 : Int) ≤ (n : Int)) && decide ((n : Int) ≤ 4)) = (decide (1 ≤ n) && decide (n ≤ 4)) := by
  rw [show decide ((1 : Int) ≤ (n : Int)) = decide (1 ≤ n) from decide_eq_decide.mpr (by omega), show decide ((n : Int) ≤ 4) = decide (n ≤ 4) from decide_eq_decide.mpr (by omega)]
theorem ok_sw {f fI fF : Addr} {fd fdI fdF : FuncData} {k : Nat} (F : L2.Fun K "are_switches" "are_switches" sSw f fd) (T : Bt mg) (cI : CdW K mg fI fdI) (cF : Cd K mg "are_switches_from" sSwF ["value", "mode", "modes"] fF fdF)
    (mC : ∃ t, mg "MOST_COST" = some (.int 4 t)) (mM : ∃ t, mg "MOST_MODES" = some (.int 4 t)) : FnOk P w K mg base CX0 (k + 4) f fd ["value"] spSw := by
  have GF : FnOk P w K mg base CX0 (k + 3) fF fdF ["value", "mode", "modes"] spSwF := ok_swF cF.F T cI mC
  obtain ⟨tk, mM⟩ := mM
  refine F.ok scSw (fun vs H Q E h => ?_) (fun cdv A outer s H vs Q E hr h => ?_)
  · obtain ⟨v, d, rfl, _⟩ := h
    rfl
  · obtain ⟨v, d, rfl, hd, q⟩ := h
    refine ⟨_, pss_cons (ps_if (PW.pt (pw_or (pt_not (pt_val (pe_callB call_isi (by rfl) T.isi (by decide +kernel) (pa_cons (pv 0) (pa_cons (pe_bltn (v := .ty "list") (by rfl) T.list (by decide +kernel) rfl) pa_nil)))))
        (pw_or1 (pt_not (pt_chain op_le op_le pe_int (pe_callB call_len_seq (by rfl) T.len PySem.boot_len (pa_cons (pv 0) pa_nil)) (pe_glob (v := .int 4) rfl mM ⟨_, rfl⟩)))))) (pss_one (ps_ret pe_bl)) pss_nil)
      (pss_one (ps_ret (pe_callB (cr_all rfl) (by rfl) T.all (by decide +kernel) (pa_cons
        (pe_lc (own := [("mode", 1)]) (g := gName 1) (tt := tYes) rfl scSw.nd (pi_range1 rfl T.range (pa_cons (pe_callB call_len_seq (by rfl) T.len PySem.boot_len (pa_cons (pv 0) pa_nil)) pa_nil)) (blkOk_by (own := [("mode", 1)]) (N := ["value", "mode"]) (sc := defScope sSw) (by decide +kernel)) (fun _ _ _ _ _ => pg_name (i := 1) scSw.nd rfl (Or.inl rfl)) (fun _ _ _ _ _ => pts_nil)
          (fun _ _ _ _ _ => pe_call GF hr (by rfl) cF.g cF.F.kp cF.b .nil pass0 (pa_cons (pe_ix (ixL K) (pv 0) (pv 1) (fun _ _ => rfl)) (pa_cons (pv 1) (pa_cons (pe_callB (lenK K) (by rfl) T.len PySem.boot_len (pa_cons (pv 0) pa_nil)) pa_nil))))) pa_nil)))), ?_⟩
    cases d with
    | lst l =>
      obtain ⟨a, xs, rfl, ha, hl⟩ : ∃ a xs, v = .ref a ∧ H a = some (.lst xs) ∧ DqAll H xs l := by
        cases hd with
        | lst h r => exact ⟨_, _, rfl, h, r⟩
      have hlen := hl.length
      refine Evl.s_if (b := !(decide (1 ≤ l.length) && decide (l.length ≤ 4))) (Evl.et_is (Evl.et_or (a := false) (b := !(decide (1 ≤ l.length) && decide (l.length ≤ 4)))
          (Evl.et_not (a := true) (Evl.et_B (ev_isi (Evl.ev_var rfl) Evl.ev_c (fun H1 e1 => (hd.same e1).ty) (kit_sub .lst .lst))))
          (fun _ => Evl.et_is (Evl.et_not (Evl.et_test (ev_chain Evl.ev_c (ev_lenS (Evl.ev_var rfl) (.inl (Evl.sq_of ha))) Evl.rv_I0 (fun _ => Evl.ev_c) (fun _ => Evl.rv_I0)))) (by rw [hlen, dec14]))) rfl) (fun c H1 e1 => ?_) (fun c H1 e1 => ?_)
      · have c' : (decide (1 ≤ l.length) && decide (l.length ≤ 4)) = false := (Bool.not_eq_true' _).mp c
        have z : Q (.bl (decide (1 ≤ l.length) && decide (l.length ≤ 4) && (List.range l.length).all fun m => swFrom m l.length (l.getD m .non))) H1 := q H1 e1
        rw [c', Bool.false_and] at z
        exact z
      · have c' : (decide (1 ≤ l.length) && decide (l.length ≤ 4)) = true := (Bool.not_eq_false' _).mp c
        have hl4 : l.length ≤ 4 := of_decide_eq_true (Bool.and_eq_true_iff.mp c').2
        dsimp only [tNext]
        refine Evl.s_ret (v := .bl (areSw (.lst l))) (Evl.ev_is (ev_all (bs := (List.range l.length).map fun m => swFrom m l.length (l.getD m .non)) ?_) ?_) (fun H2 e2 => q H2 (Same.trans e1 e2))
        · rw [List.map_map, ← given_all (v := V.bl ∘ fun m => swFrom m l.length (l.getD m .non))]
          refine el_is (Evl.el_lcR1 (n := (xs.length : Int)) (fun _ => true) (V.bl ∘ fun m => swFrom m l.length (l.getD m .non)) (Evl.ea_cons (ev_lenS (Evl.ev_var rfl) (.inl (Evl.sq_of (e1 _ _ ha)))) Evl.ea_nil) (by omega) (fun _ => rfl) (fun i H2 e2 hi => et_yes) (fun i H2 e2 hi _ => ?_)) (by rw [Int.toNat_natCast, hlen])
          have hi' : i < xs.length := by omega
          obtain ⟨d0, hd0, hq0⟩ := hl.get (List.getElem?_eq_getElem hi')
          have ha2 := e2 _ _ (e1 _ _ ha)
          refine Evl.ev_call (vs := [xs[i], .int (i : Nat), .int (xs.length : Nat)]) (Evl.ea_cons (Evl.ev_op (Evl.ev_var rfl) (Evl.ev_var rfl) (Evl.rv_ixL (Evl.sq_of ha2) (atI_nat (List.getElem?_eq_getElem hi')))) (Evl.ea_cons (Evl.ev_var rfl) (Evl.ea_cons (ev_lenS (Evl.ev_var rfl) (.inl (Evl.sq_of ha2))) Evl.ea_nil))) (fun H3 e3 Q3 q3 E3 => ⟨xs[i], d0, i, xs.length, rfl, hq0.same ((e1.trans e2).trans e3), hi', by omega, fun H4 e4 => ?_⟩)
          have := q3 H4 e4
          rw [hlen, ← getD_of hd0]
          exact this
        · show V.bl _ = V.bl (decide (1 ≤ l.length) && decide (l.length ≤ 4) && (List.range l.length).all fun m => swFrom m l.length (l.getD m .non))
          rw [c', Bool.true_and, all_range]
    | _ =>
      refine Evl.s_if (b := true) (Evl.et_is (Evl.et_or (a := true) (b := true)
          (Evl.et_not (a := false) (Evl.et_B (ev_isi (Evl.ev_var rfl) Evl.ev_c (fun H1 e1 => (hd.same e1).ty) (kit_sub _ .lst))))
          (fun z => nomatch z)) rfl) (fun c H1 e1 => ?_) (fun c H1 e1 => nomatch c)
      exact q H1 e1
def vNot (v : V) : Bool := !decide (v = .non)
theorem vNot_eq {H : Hp} {v : V} {d : D} (h : Dq H v d) : vNot v = notNon d := by cases h <;> rfl
theorem DqAll_filter {H : Hp} : ∀ {xs : List V} {l : List D}, DqAll H xs l → DqAll H (xs.filter vNot) (l.filter notNon)
  | _, _, .nil => .nil
  | _, _, .cons (v := v) (d := d) h r => by
    have e := vNot_eq h
    rw [List.filter_cons, List.filter_cons, e]
    cases notNon d with
    | true => exact .cons h (DqAll_filter r)
    | false => exact DqAll_filter r
theorem given_filter {xs : List V} {p : V → Bool} : Evl.given xs.length (fun i => p (xs.getD i .non)) (fun i => xs.getD i .non) = xs.filter p := by
  have e : (List.range xs.length).map (fun i => xs.getD i .non) = xs := by
    refine List.ext_getElem (by simp) fun i _ h2 => ?_
    simp [h2]
  unfold Evl.given
  conv => rhs; rw [← e, List.filter_map]
  rfl
theorem getV_of {l : List V} {i : Nat} {d : V} (h : l[i]? = some d) : l.getD i .non = d := by
  rw [List.getD_eq_getElem?_getD, h]
  rfl
def spSe : Sp := fun vs H Q _ => ∃ v d n, vs = [v, .int (n : Nat)] ∧ Dq H v d ∧ n ≤ 1000 ∧ ∀ H', Same H H' → Q (.bl (areSe n d)) H'
theorem ok_se {f fI : Addr} {fd fdI : FuncData} {k : Nat} (F : L2.Fun K "are_services" "are_services" sSe f fd) (T : Bt mg) (cI : CdW K mg fI fdI)
    (mC : ∃ t, mg "MOST_COST" = some (.int 4 t)) : FnOk P w K mg base CX0 (k + 3) f fd ["value", "modes"] spSe := by
  have GI : FnOk P w K mg base CX0 (k + 2) fI fdI ["value", "least", "most"] spIsInt := ok_isInt cI T
  obtain ⟨tk, mC⟩ := mC
  refine F.ok scSe (fun vs H Q E h => ?_) (fun cdv A outer s H vs Q E hr h => ?_)
  · obtain ⟨v, d, n, rfl, _⟩ := h
    rfl
  · obtain ⟨v, d, n, rfl, hd, hn, q⟩ := h
    refine ⟨_, pss_cons (ps_if (PW.pt (pw_or (pt_not (pt_val (pe_callB call_isi (by rfl) T.isi (by decide +kernel) (pa_cons (pv 0) (pa_cons (pe_bltn (v := .ty "list") (by rfl) T.list (by decide +kernel) rfl) pa_nil)))))
        (pw_or1 (pt_cmpR op_ne (pe_callB call_len_seq (by rfl) T.len PySem.boot_len (pa_cons (pv 0) pa_nil)) (pv 1) (nomark _))))) (pss_one (ps_ret pe_bl)) pss_nil)
      (pss_cons (ps_setLc (i := 2) (own := [("cost", 3)]) (g := gName 3) (tt := _) rfl scSe.nd rfl rfl (sw_true rfl rfl rfl (by decide +kernel)) (pi_list (pv 0)) (blkOk_by (own := [("cost", 3)]) (N := ["value", "modes", "served", "cost"]) (sc := defScope sSe) (by decide +kernel)) (fun _ _ _ _ _ => pg_name (i := 3) scSe.nd rfl (Or.inl rfl)) (fun _ _ _ _ _ => pts_one (pt_cmpR op_notN (pv 3) pe_non (nomark _)))
          (fun _ _ _ _ _ => pv 3))
      (pss_one (ps_ret (pe_and (pe_cmpR op_gt (pe_callB call_len_seq (by rfl) T.len PySem.boot_len (pa_cons (pv 2) pa_nil)) pe_int (nomark _))
        (pe_one (pe_callB (cr_all rfl) (by rfl) T.all (by decide +kernel) (pa_cons
        (pe_lc (own := [("cost", 3)]) (g := gName 3) (tt := tYes) rfl scSe.nd (pi_list (pv 2)) (blkOk_by (own := [("cost", 3)]) (N := ["value", "modes", "served", "cost"]) (sc := defScope sSe) (by decide +kernel)) (fun _ _ _ _ _ => pg_name (i := 3) scSe.nd rfl (Or.inl rfl)) (fun _ _ _ _ _ => pts_nil)
          (fun _ _ _ _ _ => pe_call GI hr (by rfl) cI.g cI.F.kp cI.b .nil pass0 (pa_cons (pv 3) (pa_cons pe_int (pa_cons (pe_glob (v := .int 4) rfl mC ⟨_, rfl⟩) pa_nil))))) pa_nil))))))), ?_⟩
    cases d with
    | lst l =>
      obtain ⟨a, xs, rfl, ha, hl⟩ : ∃ a xs, v = .ref a ∧ H a = some (.lst xs) ∧ DqAll H xs l := by
        cases hd with
        | lst h r => exact ⟨_, _, rfl, h, r⟩
      have hlen := hl.length
      refine Evl.s_if (b := !decide (l.length = n)) (Evl.et_is (Evl.et_or (a := false) (b := !decide (l.length = n))
          (Evl.et_not (a := true) (Evl.et_B (ev_isi (Evl.ev_var rfl) Evl.ev_c (fun H1 e1 => (hd.same e1).ty) (kit_sub .lst .lst))))
          (fun _ => Evl.et_is (Evl.et_test (Evl.ev_op (ev_lenS (Evl.ev_var rfl) (.inl (Evl.sq_of ha))) (Evl.ev_var rfl) ne_int)) (by rw [hlen, dec_nat]))) rfl) (fun c H1 e1 => ?_) (fun c H1 e1 => ?_)
      · have c' : decide (l.length = n) = false := (Bool.not_eq_true' _).mp c
        have z : Q (.bl (decide (l.length = n) && (decide (0 < (l.filter notNon).length) && (l.filter notNon).all (isIntD 0 4)))) H1 := q H1 e1
        rw [c', Bool.false_and] at z
        exact z
      · have c' : decide (l.length = n) = true := (Bool.not_eq_false' _).mp c
        have hln := of_decide_eq_true c'
        dsimp only [tNext]
        refine Evl.s_asgL (xs := xs.filter vNot) (el_is (HX.el_lcL (a := a) (xs := xs) (fun i => vNot (xs.getD i .non)) (fun i => xs.getD i .non) (Evl.ev_var rfl) (Evl.sq_of (e1 _ _ ha)) (by omega) (fun _ => rfl) (fun i y H2 e2 hi => ?_) (fun i y H2 e2 hi _ => ?_)) given_filter) (fun p H2 np e2 hp => ?_)
        · rw [getV_of hi]
          exact Evl.et_test (Evl.ev_op (Evl.ev_var rfl) Evl.ev_c (fun H3 _ Q3 q3 => ⟨rfl, q3 H3 (Evl.Ex.refl H3)⟩))
        · rw [getV_of hi]
          exact Evl.ev_var rfl
        have hf : DqAll H2 (xs.filter vNot) (l.filter notNon) := (DqAll_filter hl).same (e1.trans e2)
        have hfl := hf.length
        have hfle : (xs.filter vNot).length ≤ 1000 := by have := List.length_filter_le vNot xs; omega
        refine Evl.s_ret (v := .bl (areSe n (.lst l))) (Evl.ev_is (Evl.ev_andV (a := decide (0 < (l.filter notNon).length)) (b := (l.filter notNon).all (isIntD 0 4)) (Evl.ev_is (Evl.ev_op (ev_lenS (Evl.ev_var rfl) (.inl (Evl.sq_of hp))) Evl.ev_c Evl.rv_I0) ?_) (fun c2 => Evl.ev_is (ev_all (bs := (List.range (l.filter notNon).length).map fun i => isIntD 0 4 ((l.filter notNon).getD i .non)) ?_) (by rw [all_range, all_get]))) ?_) (fun H3 e3 => q H3 (Same.trans e1 (Same.trans e2 e3)))
        · show V.bl (decide ((0 : Int) < ((xs.filter vNot).length : Int))) = V.bl (decide (0 < (l.filter notNon).length))
          rw [hfl]
          congr 1
          exact (decide_eq_decide (p := _) (q := _)).mpr (by omega)
        · rw [List.map_map, ← hfl, ← given_all (v := V.bl ∘ fun i => isIntD 0 4 ((l.filter notNon).getD i .non))]
          refine HX.el_lcL (a := p) (xs := xs.filter vNot) (fun _ => true) _ (Evl.ev_var rfl) (Evl.sq_of hp) (by omega) (fun _ => rfl) (fun i y H3 e3 hi => et_yes) (fun i y H3 e3 hi _ => ?_)
          obtain ⟨d0, hd0, hq0⟩ := hf.get hi
          refine Evl.ev_call (vs := [y, .int 0, .int 4]) (Evl.ea_cons (Evl.ev_var rfl) (Evl.ea_cons Evl.ev_c (Evl.ea_cons Evl.ev_c Evl.ea_nil))) (fun H4 e4 Q3 q3 E3 => ⟨y, d0, 0, 4, rfl, hq0.same (e3.trans e4), fun H9 s9 => ?_⟩)
          have := q3 H9 s9
          show Q3 (V.bl (isIntD 0 4 d0)) H9
          rw [← getD_of hd0]
          exact this
        · show V.bl _ = V.bl (decide (l.length = n) && (decide (0 < (l.filter notNon).length) && (l.filter notNon).all (isIntD 0 4)))
          rw [c', Bool.true_and]
    | _ =>
      refine Evl.s_if (b := true) (Evl.et_is (Evl.et_or (a := true) (b := true)
          (Evl.et_not (a := false) (Evl.et_B (ev_isi (Evl.ev_var rfl) Evl.ev_c (fun H1 e1 => (hd.same e1).ty) (kit_sub _ .lst))))
          (fun z => nomatch z)) rfl) (fun c H1 e1 => ?_) (fun c H1 e1 => nomatch c)
      exact q H1 e1

def spKi : Sp := fun vs H Q _ => ∃ v d n, vs = [v, .int (n : Nat)] ∧ Dq H v d ∧ kvOk d = true ∧ n ≤ 1000 ∧ ∀ H', Same H H' → Q (.bl (areKi n d)) H'
theorem all_getP {l : List (Key × D)} {f : Key × D → Bool} : ((List.range l.length).all fun i => f (l.getD i (.inl 0, .non))) = l.all f := by
  have e : (List.range l.length).map (fun i => l.getD i (.inl 0, .non)) = l := by
    refine List.ext_getElem (by simp) fun i _ h2 => ?_
    simp [h2]
  calc ((List.range l.length).all fun i => f (l.getD i (.inl 0, .non))) = (((List.range l.length).map (fun i => l.getD i (.inl 0, .non))).all f) := by rw [List.all_map]; rfl
    _ = l.all f := by rw [e]
theorem getP_of {l : List (Key × D)} {i : Nat} {d : Key × D} (h : l[i]? = some d) : l.getD i (.inl 0, .non) = d := by
  rw [List.getD_eq_getElem?_getD, h]
  rfl
theorem ok_ki {f fI fN fS : Addr} {fd fdI fdN fdS : FuncData} {k : Nat} (F : L2.Fun K "are_kinds" "are_kinds" sKi f fd) (T : Bt mg) (cI : CdW K mg fI fdI) (cN : Cd K mg "is_name" sIsName ["value"] fN fdN)
    (cS : Cd K mg "are_services" sSe ["value", "modes"] fS fdS) (mC : ∃ t, mg "MOST_COST" = some (.int 4 t)) (mM : ∃ t, mg "MOST_KINDS" = some (.int 4 t)) : FnOk P w K mg base CX0 (k + 4) f fd ["value", "modes"] spKi := by
  have GN : FnOk P w K mg base CX0 (k + 3) fN fdN ["value"] spIsName := ok_isName (k := k + 2) cN.F T
  have GS : FnOk P w K mg base CX0 (k + 3) fS fdS ["value", "modes"] spSe := ok_se cS.F T cI mC
  obtain ⟨tk, mM⟩ := mM
  refine F.ok scKi (fun vs H Q E h => ?_) (fun cdv A outer s H vs Q E hr h => ?_)
  · obtain ⟨v, d, n, rfl, _⟩ := h
    rfl
  · obtain ⟨v, d, n, rfl, hd, ho, hn, q⟩ := h
    have hu := hu_of hr
    cases d with
    | dic l =>
      obtain ⟨a, kvs, rfl, ha, hnd, hl⟩ : ∃ a kvs, v = .ref a ∧ H a = some (.dK kvs) ∧ (kvs.map (·.1)).Nodup ∧ DqKv H kvs l := by
        cases hd with
        | dic h n r => exact ⟨_, _, rfl, h, n, r⟩
      have hlen := hl.length
      refine ⟨_, pss_cons (ps_if (PW.pt (pw_or (pt_not (pt_val (pe_callB call_isi (by rfl) T.isi (by decide +kernel) (pa_cons (pv 0) (pa_cons (pe_bltn (v := .ty "dict") (by rfl) T.dict (by decide +kernel) rfl) pa_nil)))))
          (pw_or1 (pt_not (pt_chain op_le op_le pe_int (pe_callB call_lenD (by rfl) T.len PySem.boot_len (pa_cons (pv 0) pa_nil)) (pe_glob (v := .int 4) rfl mM ⟨_, rfl⟩)))))) (pss_one (ps_ret pe_bl)) pss_nil)
        (pss_one (ps_ret (pe_callB (cr_all rfl) (by rfl) T.all (by decide +kernel) (pa_cons (pe_lock
          (pe_lc (own := [("name", 2)]) (g := gName 2) (tt := tYes) rfl scKi.nd (pi_keys (pv 0)) (blkOk_by (own := [("name", 2)]) (N := ["value", "modes", "name"]) (sc := defScope sKi) (by decide +kernel)) (fun _ _ _ _ _ => pg_name (i := 2) scKi.nd rfl (Or.inl rfl)) (fun _ _ _ _ _ => pts_nil)
            (fun _ _ _ _ _ => pe_and (pe_call GN hr (by rfl) cN.g cN.F.kp cN.b .nil pass0 (pa_cons (pv 2) pa_nil))
              (pe_one (pe_call GS hr (by rfl) cS.g cS.F.kp cS.b .nil pass0 (pa_cons (pe_dget hu (pv 0) (pv 2) (fun _ _ => rfl)) (pa_cons (pv 1) pa_nil))))))) pa_nil)))), ?_⟩
      refine Evl.s_if (b := !(decide (1 ≤ l.length) && decide (l.length ≤ 4))) (Evl.et_is (Evl.et_or (a := false) (b := !(decide (1 ≤ l.length) && decide (l.length ≤ 4)))
          (Evl.et_not (a := true) (Evl.et_B (ev_isi (Evl.ev_var rfl) Evl.ev_c (fun H1 e1 => (hd.same e1).ty) (kit_sub .dic .dic))))
          (fun _ => Evl.et_is (Evl.et_not (Evl.et_test (ev_chain Evl.ev_c (ev_lenD (Evl.ev_var rfl) ha) Evl.rv_I0 (fun _ => Evl.ev_c) (fun _ => Evl.rv_I0)))) (by rw [hlen, dec14]))) rfl) (fun c H1 e1 => ?_) (fun c H1 e1 => ?_)
      · have c' : (decide (1 ≤ l.length) && decide (l.length ≤ 4)) = false := (Bool.not_eq_true' _).mp c
        have z : Q (.bl (decide (1 ≤ l.length) && decide (l.length ≤ 4) && l.all fun p => isNameD (keyD p.1) && areSe n p.2)) H1 := q H1 e1
        rw [c', Bool.false_and] at z
        exact z
      · have c' : (decide (1 ≤ l.length) && decide (l.length ≤ 4)) = true := (Bool.not_eq_false' _).mp c
        have hl4 : l.length ≤ 4 := of_decide_eq_true (Bool.and_eq_true_iff.mp c').2
        dsimp only [tNext]
        refine Evl.s_ret (v := .bl (areKi n (.dic l))) (Evl.ev_is (ev_all (bs := (List.range l.length).map fun i => isNameD (keyD (l.getD i (.inl 0, .non)).1) && areSe n (l.getD i (.inl 0, .non)).2) (el_lock (e1 _ _ ha) True.intro fun od => ?_)) ?_) (fun H2 e2 => q H2 (Same.trans e1 e2))
        · rw [List.map_map, ← hlen, ← given_all (v := V.bl ∘ fun i => isNameD (keyD (l.getD i (.inl 0, .non)).1) && areSe n (l.getD i (.inl 0, .non)).2)]
          have hun : ∀ b o, b ≠ a → H b = some o → upd H1 a (.frz od (.dK kvs)) b = some o := fun b o hb e => by
            rw [upd_ne hb]
            exact e1 _ _ e
          refine el_lcW (walk_keys (d := a) (o := od) (kvs := kvs)) (fun _ => true) _ (fun H2 e2 R r => ⟨_, rfl, a, od, rfl, .inl ⟨kvs, e2 _ _ upd_same, r H2 (Same.refl H2)⟩⟩) (fun H2 e2 => e2 _ _ upd_same) (fun i H2 y H3 h => h.1) (by omega) (fun _ => rfl) (fun i y H2 e2 hi h => et_yes) (fun i y H2 e2 hi h _ => ?_)
          obtain ⟨_, k0, v0, hi0, rfl⟩ := h
          obtain ⟨d0, hd0, hk0, hq0⟩ := hl.get hi0
          have hg0 : l.getD i (.inl 0, .non) = (k0, d0) := getP_of hd0
          have ha1 : H1 a = some (.dK kvs) := e1 _ _ ha
          have hkq : Dq H2 (kV k0) (keyD k0) := ((hk0.same e1).lock ha1 keyD_nd).same e2
          have hdq : Dq H2 v0 d0 := ((hq0.same e1).lock ha1 (List.all_eq_true.mp ho _ (List.mem_of_getElem? hd0))).same e2
          have hg2 : H2 a = some (.frz od (.dK kvs)) := e2 _ _ upd_same
          have hval : valV kvs k0 = some v0 := val_nodup hnd (k0, v0) (List.mem_of_getElem? hi0)
          show Evl.Ev _ _ H2 (V.bl (isNameD (keyD (l.getD i (.inl 0, .non)).1) && areSe n (l.getD i (.inl 0, .non)).2))
          rw [hg0]
          refine Evl.ev_andV (a := isNameD (keyD k0)) (b := areSe n d0) (Evl.ev_call (vs := [kV k0]) (Evl.ea_cons (Evl.ev_var rfl) Evl.ea_nil) (fun H3 e3 Q3 q3 E3 => ⟨kV k0, keyD k0, rfl, hkq.same e3, q3⟩)) (fun _ => ?_)
          exact Evl.ev_call (vs := [v0, .int (n : Nat)]) (Evl.ea_cons (ev_dget (Evl.ev_var rfl) (Evl.ev_var rfl) (fun H3 e3 => .inl ⟨kvs, k0, .inr ⟨od, e3 _ _ hg2⟩, rfl, hval.symm⟩)) (Evl.ea_cons (Evl.ev_var rfl) Evl.ea_nil)) (fun H3 e3 Q3 q3 E3 => ⟨v0, d0, n, rfl, hdq.same e3, hn, q3⟩)
        · show V.bl _ = V.bl (decide (1 ≤ l.length) && decide (l.length ≤ 4) && l.all fun p => isNameD (keyD p.1) && areSe n p.2)
          rw [c', Bool.true_and, all_range, all_getP (f := fun p => isNameD (keyD p.1) && areSe n p.2)]
    | _ =>
      refine ⟨_, pss_cons (ps_if (PW.pt (pw_or (pt_not (pt_val (pe_callB call_isi (by rfl) T.isi (by decide +kernel) (pa_cons (pv 0) (pa_cons (pe_bltn (v := .ty "dict") (by rfl) T.dict (by decide +kernel) rfl) pa_nil)))))
          (pw_or1 (pt_not (pt_chain op_le op_le pe_int (pe_callB call_lenD (by rfl) T.len PySem.boot_len (pa_cons (pv 0) pa_nil)) (pe_glob (v := .int 4) rfl mM ⟨_, rfl⟩)))))) (pss_one (ps_ret pe_bl)) pss_nil)
        (pss_one ps_never), ?_⟩
      refine Evl.s_if (b := true) (Evl.et_is (Evl.et_or (a := true) (b := true)
          (Evl.et_not (a := false) (Evl.et_B (ev_isi (Evl.ev_var rfl) Evl.ev_c (fun H1 e1 => (hd.same e1).ty) (kit_sub _ .dic))))
          (fun z => nomatch z)) rfl) (fun c H1 e1 => ?_) (fun c H1 e1 => nomatch c)
      exact q H1 e1
end
end K04

set_option maxRecDepth 100000
set_option maxHeartbeats 3000000
namespace HX
open PySem PySem.Spec PyProof.Rows L2
/-! ### data made on the way, apart from some objects -/
def mask (A : Addr → Bool) (H : Hp) : Hp := fun b => if A b = true then none else H b
def Tr (A : Addr → Bool) (H : Hp) : Prop := ∀ b, A b = true → H b ≠ none
def noA : Addr → Bool := fun _ => false
def plusA (A : Addr → Bool) (p : Addr) : Addr → Bool := fun b => A b || decide (b = p)
theorem mask_no {H : Hp} : mask noA H = H := by
  funext b
  exact if_neg Bool.false_ne_true
theorem Tr.no {H : Hp} : Tr noA H := fun _ h => by cases h
theorem Tr.same {A : Addr → Bool} {H H' : Hp} (t : Tr A H) (s : Same H H') : Tr A H' := fun b h z => by
  cases e : H b with
  | none => exact t b h e
  | some o => rw [s b o e] at z; cases z
theorem Tr.fresh {A : Addr → Bool} {H : Hp} {p : Addr} (t : Tr A H) (n : H p = none) : A p = false := by
  cases e : A p with
  | false => rfl
  | true => exact absurd n (t p e)
theorem Tr.plus {A : Addr → Bool} {H : Hp} {p : Addr} {o : HO} (t : Tr A H) (h : H p = some o) : Tr (plusA A p) H := fun b hb z => by
  rcases Bool.or_eq_true_iff.mp hb with e | e
  · exact t b e z
  · rw [of_decide_eq_true e, h] at z; cases z
theorem mask_at {A : Addr → Bool} {H : Hp} {p : Addr} (e : A p = false) : mask A H p = H p := if_neg (by rw [e]; exact Bool.false_ne_true)
theorem mask_some {A : Addr → Bool} {H : Hp} {p : Addr} {o : HO} (h : mask A H p = some o) : H p = some o ∧ A p = false := by
  unfold mask at h
  split at h
  · cases h
  · rename_i n
    exact ⟨h, eq_false_of_ne_true n⟩
theorem mask_same {A : Addr → Bool} {H H' : Hp} (s : Same H H') : Same (mask A H) (mask A H') := fun b o h => by
  obtain ⟨h1, h2⟩ := mask_some h
  rw [mask_at h2]
  exact s b o h1
theorem mask_un {A : Addr → Bool} {H : Hp} : Same (mask A H) H := fun _ _ h => (mask_some h).1
theorem mask_less {A : Addr → Bool} {p : Addr} {H : Hp} : Same (mask (plusA A p) H) (mask A H) := fun b o h => by
  obtain ⟨h1, h2⟩ := mask_some h
  have : A b = false := (Bool.or_eq_false_iff.mp h2).1
  rw [mask_at this]
  exact h1
/-- what is written at p does not touch what is apart from p -/
theorem mask_upd {A : Addr → Bool} {p : Addr} {H : Hp} {o : HO} : Same (mask (plusA A p) H) (mask A (upd H p o)) := fun b u h => by
  obtain ⟨h1, h2⟩ := mask_some h
  have h3 := Bool.or_eq_false_iff.mp h2
  have h4 : b ≠ p := of_decide_eq_false h3.2
  rw [mask_at h3.1, upd_ne h4]
  exact h1
theorem mask_updP {A : Addr → Bool} {p : Addr} {H : Hp} {o : HO} : Same (mask (plusA A p) H) (mask (plusA A p) (upd H p o)) := fun b u h => by
  obtain ⟨h1, h2⟩ := mask_some h
  have h3 := Bool.or_eq_false_iff.mp h2
  have h4 : b ≠ p := of_decide_eq_false h3.2
  rw [mask_at h2, upd_ne h4]
  exact h1
def EvQ (A : Addr → Bool) (te : TE) (σ : L2.St) (H : Hp) (d : D) : Prop := ∀ H1, Same H H1 → ∀ Q : VK, (∀ v H2, Same H1 H2 → Dq (mask A H2) v d → Q v H2) → te σ H1 Q
def EvQA (A : Addr → Bool) (ta : TA) (σ : L2.St) (H : Hp) (ds : List D) : Prop := ∀ H1, Same H H1 → ∀ Q : List V → Hp → Prop, (∀ vs H2, Same H1 H2 → DqAll (mask A H2) vs ds → Q vs H2) → ta σ H1 Q
def EvQP (A : Addr → Bool) (trs : List (TE × TE)) (σ : L2.St) (H : Hp) (ds : List (Key × D)) : Prop := ∀ H1, Same H H1 → ∀ Q : List (V × V) → Hp → Prop,
  (∀ (kvs : List (Key × V)) H2, Same H1 H2 → DqKv (mask A H2) kvs ds → kvs.map (·.1) = ds.map (·.1) → Q (kvs.map fun kv => (kV kv.1, kv.2)) H2) → tPairs trs σ H1 Q
section
variable {A : Addr → Bool} {K : PySem.W.Frag} {σ : L2.St} {H : Hp} {te ta tb : TE} {tr tas : TA} {d : D} {ds : List D}
theorem eq_non : EvQ A (tC .non) σ H .non := fun H1 _ _ q => q _ H1 (Same.refl _) .non
theorem eq_bl {b : Bool} : EvQ A (tC (.bl b)) σ H (.bl b) := fun H1 _ _ q => q _ H1 (Same.refl _) (.bl b)
theorem eq_int' {i : Int} : EvQ A (tC (.int i)) σ H (.int i) := fun H1 _ _ q => q _ H1 (Same.refl _) (.int i)
theorem eq_str {x : Str} (hx : x.length ≤ 1000) : EvQ A (tC (.str x)) σ H (.str x) := fun H1 _ _ q => q _ H1 (Same.refl _) (.str x hx)
theorem eq_negi {i : Int} : EvQ A (tUn (rU fun i => .int (-i)) (tC (.int i))) σ H (.int (-i)) := fun H1 _ _ q => ⟨i, rfl, q _ H1 (Same.refl _) (.int _)⟩
theorem eq_var {i : Nat} {v : V} (h : σ[i]? = some (some v)) (hd : Dq (mask A H) v d) : EvQ A (tVar i) σ H d := fun H1 e _ q => ⟨v, h, q _ H1 (Same.refl _) (hd.same (mask_same e))⟩
theorem eqa_nil : EvQA A tNil σ H [] := fun H1 _ _ q => q _ H1 (Same.refl _) .nil
theorem eqa_cons (h : EvQ A te σ H d) (hr : EvQA A tr σ H ds) : EvQA A (tCons te tr) σ H (d :: ds) := fun H1 e _ q =>
  h H1 e _ fun v H2 e2 hv => hr H2 (Same.trans e e2) _ fun vs H3 e3 hvs => q _ H3 (Same.trans e2 e3) (.cons (hv.same (mask_same e3)) hvs)
theorem eq_tup (t : Tr A H) (h : EvQA A tas σ H ds) (hl : ds.length ≤ 1000) : EvQ A (tTup tas) σ H (.tup ds) := fun H1 e _ q =>
  h H1 e _ fun vs H2 e2 hv => ⟨Evl.sz_of (by rw [hv.length]; omega), fun p hp => by
    have s3 : Same H2 (upd H2 p (.tup vs)) := Evl.Ex.new hp
    have a3 : A p = false := (t.same (Same.trans e e2)).fresh hp
    exact q _ _ (Same.trans e2 s3) (.tup (by rw [mask_at a3]; exact upd_same) (hv.same (mask_same s3)))⟩
theorem eq_lst (t : Tr A H) (h : EvQA A tas σ H ds) (hl : ds.length ≤ 1000) : EvQ A (tLst tas) σ H (.lst ds) := fun H1 e _ q =>
  h H1 e _ fun vs H2 e2 hv => ⟨Evl.sz_of (by rw [hv.length]; omega), fun p hp => by
    have s3 : Same H2 (upd H2 p (.lst vs)) := Evl.Ex.new hp
    have a3 : A p = false := (t.same (Same.trans e e2)).fresh hp
    exact q _ _ (Same.trans e2 s3) (.lst (by rw [mask_at a3]; exact upd_same) (hv.same (mask_same s3)))⟩
theorem Dq.lst_inv {H : Hp} {v : V} {l : List D} (h : Dq H v (.lst l)) : ∃ a xs, v = .ref a ∧ H a = some (.lst xs) ∧ DqAll H xs l := by
  cases h with
  | lst h r => exact ⟨_, _, rfl, h, r⟩
theorem DqAll.append : ∀ {xs ys : List V} {as bs : List D}, DqAll H xs as → DqAll H ys bs → DqAll H (xs ++ ys) (as ++ bs)
  | _, _, _, _, .nil, s => s
  | _, _, _, _, .cons r t, s => .cons r (DqAll.append t s)
theorem eq_cat {as bs : List D} (t : Tr A H) (ha : EvQ A ta σ H (.lst as)) (hb : EvQ A tb σ H (.lst bs)) (hl : as.length + bs.length ≤ 1000) : EvQ A (tOp rCat ta tb) σ H (.lst (as ++ bs)) := fun H1 e Q q =>
  ha H1 e _ fun v H2 e2 hv => hb H2 (Same.trans e e2) _ fun u H3 e3 hu => by
    obtain ⟨a, xs, rfl, h1, r1⟩ := (hv.same (mask_same e3)).lst_inv
    obtain ⟨b, ys, rfl, h2, r2⟩ := hu.lst_inv
    have l1 := r1.length
    have l2 := r2.length
    refine ⟨a, b, xs, ys, rfl, rfl, (mask_some h1).1, (mask_some h2).1, Evl.sz_of (by omega), fun p hp => ?_⟩
    have s3 : Same H3 (upd H3 p (.lst (xs ++ ys))) := Evl.Ex.new hp
    have a3 : A p = false := (t.same (Same.trans e (Same.trans e2 e3))).fresh hp
    exact q _ _ (Same.trans (Same.trans e2 e3) s3) (.lst (by rw [mask_at a3]; exact upd_same) ((r1.append r2).same (mask_same s3)))
theorem DqAll.rep {xs : List V} {as : List D} (r : DqAll H xs as) : ∀ n : Nat, DqAll H (List.replicate n xs).flatten (List.replicate n as).flatten
  | 0 => .nil
  | n + 1 => by
    simp only [List.replicate_succ, List.flatten_cons]
    exact r.append (DqAll.rep r n)
theorem eq_rep {as : List D} {k : Int} (t : Tr A H) (ha : EvQ A ta σ H (.lst as)) (hb : Evl.Ev tb σ H (.int k)) (hk : 0 ≤ k ∧ k ≤ 100) (hl : as.length ≤ 10) : EvQ A (tOp rRep ta tb) σ H (.lst (List.replicate k.toNat as).flatten) := fun H1 e Q q =>
  ha H1 e _ fun v H2 e2 hv => hb H2 (Same.trans e e2) _ fun H3 e3 => by
    obtain ⟨a, xs, rfl, h1, r1⟩ := (hv.same (mask_same e3)).lst_inv
    have l1 := r1.length
    have hb2 : xs.length * k.toNat ≤ 10 * 100 := Nat.mul_le_mul (by omega) (by omega)
    refine ⟨a, k, xs, rfl, rfl, (mask_some h1).1, by omega, by omega, Evl.sz_of (by omega), fun p hp => ?_⟩
    have s3 : Same H3 (upd H3 p (.lst (List.replicate k.toNat xs).flatten)) := Evl.Ex.new hp
    have a3 : A p = false := (t.same (Same.trans e (Same.trans e2 e3))).fresh hp
    exact q _ _ (Same.trans (Same.trans e2 e3) s3) (.lst (by rw [mask_at a3]; exact upd_same) ((r1.rep _).same (mask_same s3)))
/-- a comprehension over range(lo..): its element data -/
theorem eq_lcR {wi : TI} {lo : Int} {n : Nat} {j : Nat} {vs : List Nat} (f : Nat → D) (t : Tr A H) (hn : n ≤ 1000) (hw : ∀ x, wipe ((wipe σ vs).set j (some x)) vs = wipe σ vs)
    (hwi : ∀ H1, Same H H1 → ∀ R : It → Hp → Prop, (∀ H2, Same H1 H2 → R (Itr lo n) H2) → wi σ H1 R)
    (he : ∀ (i : Nat) A' H1, Same H H1 → Tr A' H1 → i < n → EvQ A' te ((wipe σ vs).set j (some (.int (lo + i)))) H1 (f i)) : EvQ A (tLc wi (gName j) tYes te vs) σ H (.lst ((List.range n).map f)) := fun H0 e Q q => hwi H0 e _ fun H1 e1 Dl hD =>
  lc_range (lo := lo) (n := n) (Qd := fun H' => Q (.ref Dl) H') (fun i H' => H1 Dl = none ∧ Same H1 H' ∧ ∃ xs, H' Dl = some (.lst xs) ∧ DqAll (mask (plusA A Dl) H') xs ((List.range i).map f))
    ⟨hD, Evl.Ex.new hD, [], upd_same, .nil⟩ (fun i H' hi p => by
      obtain ⟨p1, p2, xs, p3, p4⟩ := p
      have eH := Same.trans (Same.trans e e1) p2
      refine ⟨hw _, ?_⟩
      refine yesT ?_
      refine he i (plusA A Dl) H' eH ((t.same eH).plus p3) hi H' (Same.refl _) _ fun v H4 e4 hv => ⟨xs, e4 Dl _ p3, Evl.sz_lt (by have := p4.length; rw [List.length_map, List.length_range] at this; omega), p1, Evl.Ex.mut (Same.trans p2 e4) p1, xs ++ [v], upd_same, ?_⟩
      rw [List.range_succ, List.map_append]
      exact ((p4.same (mask_same e4)).append (.cons hv .nil)).same mask_updP) (fun H' p => by
      obtain ⟨p1, p2, xs, p3, p4⟩ := p
      have a3 : A Dl = false := (t.same (Same.trans e e1)).fresh p1
      exact q _ H' (Same.trans e1 p2) (.lst (by rw [mask_at a3]; exact p3) (p4.same mask_less)))
theorem eqp_nil : EvQP A [] σ H [] := fun H1 _ _ q => q [] H1 (Same.refl _) .nil rfl
theorem eqp_cons {k : Key} {trs : List (TE × TE)} {kds : List (Key × D)} (hk : ∀ H', Dq H' (kV k) (keyD k)) (h : EvQ A te σ H d) (hr : EvQP A trs σ H kds) : EvQP A ((tC (kV k), te) :: trs) σ H ((k, d) :: kds) := fun H1 e _ q =>
  h H1 e _ fun v H2 e2 hv => hr H2 (Same.trans e e2) _ fun kvs H3 e3 hvs hkk => q ((k, v) :: kvs) H3 (Same.trans e2 e3) (.cons (hk _) (hv.same (mask_same e3)) hvs) (by rw [List.map_cons, List.map_cons, hkk])
theorem merge_nd : ∀ {more acc : List (Key × V)}, ((acc ++ more).map (·.1)).Nodup → mergeK acc more = acc ++ more
  | [], acc, _ => by rw [List.append_nil]; rfl
  | p :: r, acc, nd => by
    show mergeK (putK acc p.1 p.2) r = _
    have hn : valV acc p.1 = none := by
      cases hv : valV acc p.1 with
      | none => rfl
      | some v =>
        have hm := valV_in hv
        rw [List.map_append, List.map_cons] at nd
        have := (List.nodup_append.mp nd).2.2 p.1 hm p.1 List.mem_cons_self
        exact absurd rfl this
    rw [putK_new _ hn, merge_nd (acc := acc ++ [(p.1, p.2)]) (by rw [List.append_assoc]; exact nd), List.append_assoc]
    rfl
theorem eq_disp {trs : List (TE × TE)} {kds : List (Key × D)} (t : Tr A H) (nd : (kds.map (·.1)).Nodup) (hl : kds.length ≤ 15) (h : ∀ A' H1, Same H H1 → Tr A' H1 → EvQP A' trs σ H1 kds) : EvQ A (tDisp trs) σ H (.dic kds) := fun H1 e Q q p hp => by
  have s1 : Same H1 (upd H1 p (.dK [])) := Evl.Ex.new hp
  have s01 := Same.trans e s1
  refine h (plusA A p) _ s01 ((t.same s01).plus upd_same) _ (Same.refl _) _ fun kvs H2 e2 hd hk => ⟨e2 _ _ upd_same, kvs, rfl, by rw [hd.length]; exact hl, ?_⟩
  have ndk : (kvs.map (·.1)).Nodup := by rw [hk]; exact nd
  rw [merge_nd (acc := []) (by rw [List.nil_append]; exact ndk), List.nil_append]
  have a3 : A p = false := (t.same e).fresh hp
  refine q _ _ (fun b o hb => ?_) (.dic (by rw [mask_at a3]; exact upd_same) ndk (hd.same mask_upd))
  rw [upd_ne (ne_of_none hb hp)]
  exact e2 _ _ (s1 _ _ hb)
theorem eq_dnew (t : Tr A H) : EvQ A tDNewK σ H (.dic []) := fun H1 e Q q d hd => by
  have a3 : A d = false := (t.same e).fresh hd
  exact q _ _ (Evl.Ex.new hd) (.dic (kvs := []) (by rw [mask_at a3]; exact upd_same) List.nodup_nil .nil)
/-- dict(a list of pairs) -/
def rDictP (K : PySem.W.Frag) : List V → Hp → VK → Prop := fun xs H Q => ∃ (a : Addr) (ps : List Addr) (kvs : List (Key × V)), xs = [.ref a] ∧ SqL K H a (ps.map V.ref) ∧ Paired (fun p kv => SqT K H p [kV kv.1, kv.2]) ps kvs ∧
  ∀ p, H p = none → Q (.ref p) (upd H p (.dK (mergeK [] kvs)))
theorem Dq.tup_inv {H : Hp} {v : V} {l : List D} (h : Dq H v (.tup l)) : ∃ a xs, v = .ref a ∧ H a = some (.tup xs) ∧ DqAll H xs l := by
  cases h with
  | tup h r => exact ⟨_, _, rfl, h, r⟩
theorem keyD_inv {H : Hp} {v : V} {k : Key} (h : Dq H v (keyD k)) : v = kV k := by
  cases k with
  | inl i => cases h; rfl
  | inr x => cases h; rfl
theorem pairs_inv : ∀ {xs : List V} {kds : List (Key × D)}, DqAll H xs (kds.map fun kd => D.tup [keyD kd.1, kd.2]) → ∃ (ps : List Addr) (kvs : List (Key × V)), xs = ps.map V.ref ∧ Paired (fun p kv => H p = some (.tup [kV kv.1, kv.2])) ps kvs ∧ DqKv H kvs kds ∧ kvs.map (·.1) = kds.map (·.1)
  | _, [], .nil => ⟨[], [], rfl, .nil, .nil, rfl⟩
  | _, kd :: kds, .cons h r => by
    obtain ⟨ps, kvs, e1, e2, e3, e4⟩ := pairs_inv r
    obtain ⟨a, xs, rfl, ha, hx⟩ := h.tup_inv
    cases hx with
    | cons hk hx =>
      cases hx with
      | cons hv hn =>
        cases hn
        have ek := keyD_inv hk
        subst ek
        exact ⟨a :: ps, (kd.1, _) :: kvs, by rw [e1]; rfl, .cons ha e2, .cons hk hv e3, by rw [List.map_cons, List.map_cons, e4]⟩
theorem eq_dictP {kds : List (Key × D)} (t : Tr A H) (nd : (kds.map (·.1)).Nodup) (h : EvQ A te σ H (.lst (kds.map fun kd => D.tup [keyD kd.1, kd.2]))) : EvQ A (tCB (rDictP K) (tCons te tNil)) σ H (.dic kds) := fun H1 e Q q =>
  h H1 e _ fun v H2 e2 hv => by
    obtain ⟨a, xs, rfl, ha, hx⟩ := hv.lst_inv
    obtain ⟨ps, kvs, rfl, h2, h3, h4⟩ := pairs_inv hx
    refine ⟨a, ps, kvs, rfl, Evl.sq_of (mask_some ha).1, Paired.mapP h2 fun p kv z => Evl.st_of (mask_some z).1, fun p hp => ?_⟩
    have ndk : (kvs.map (·.1)).Nodup := by rw [h4]; exact nd
    rw [merge_nd (acc := []) (by rw [List.nil_append]; exact ndk), List.nil_append]
    have s3 : Same H2 (upd H2 p (.dK kvs)) := Evl.Ex.new hp
    have a3 : A p = false := (t.same (Same.trans e e2)).fresh hp
    exact q _ _ (Same.trans e2 s3) (.dic (by rw [mask_at a3]; exact upd_same) ndk (h3.same (mask_same s3)))
/-- a text some times -/
def repS (x : Str) (n : Nat) : Str := if n = 1 then x else ⟨(List.replicate n x.cps).foldl (· ++ ·) #[]⟩
def rMulS : R2 := fun x y H Q => ∃ (z : Str) (n : Nat), x = .str z ∧ y = .int (n : Int) ∧ 1 ≤ n ∧ n ≤ 20 ∧ 1 ≤ z.length ∧ z.length ≤ 20 ∧ (repS z n).length ≤ 1000 ∧ Q (.str (repS z n)) H
theorem op_mulS {X : Cx} : OpR X (binaryOp .Mult) rMulS := by
  rintro pins s σ H x y v u Q I rx ry ⟨z, n, rfl, rfl, h1, h2, h3, h4, h6, q⟩
  obtain ⟨t, rfl⟩ := rx
  obtain ⟨t', rfl⟩ := ry
  have e0 : (z.length == 0) = false := by
    rw [beq_eq_false_iff_ne]
    omega
  refine PySem.P.mul_str ?_ (fun _ _ => ?_) (fun _ _ => ?_) ?_
  · rw [Bool.or_eq_false_iff]
    exact ⟨decide_eq_false (by omega), decide_eq_false (by omega)⟩
  · have h5 : (20 : Int) ≤ (2 ^ 63 - 1) / (n : Int) := Int.le_ediv_of_mul_le (by omega) (by omega)
    omega
  · have h5 : z.length * (n : Int).toNat ≤ 20 * 20 := Nat.mul_le_mul h4 (by omega)
    exact decide_eq_false (by rw [sizeLine_eq]; omega)
  · rw [if_neg (by omega)]
    by_cases e : n = 1
    · subst e
      rw [if_pos (by rfl)]
      exact ⟨.str z, H, I, ⟨_, rfl⟩, by have e : repS z 1 = z := if_pos rfl
                                        rw [e] at q
                                        exact q⟩
    · have e1 : (((n : Int) == 1) || (z.length == 0)) = false := by
        rw [e0, Bool.or_false, beq_eq_false_iff_ne]
        omega
      rw [if_neg (by rw [e1]; exact Bool.false_ne_true)]
      unfold repS at q h6
      rw [if_neg e] at q h6
      exact ⟨Evl.sz_of (Nat.le_trans h6 (by decide)), .str ⟨(List.replicate n z.cps).foldl (· ++ ·) #[]⟩, H, I.tok _, ⟨_, rfl⟩, q⟩
end
end HX
namespace HX
open PySem PySem.Spec PyProof.Rows L2
def only (p : Addr) : Addr → Bool := plusA noA p
theorem only_tr {p : Addr} {H : Hp} {o : HO} (h : H p = some o) : Tr (only p) H := Tr.no.plus h
section
variable {A : Addr → Bool} {K : PySem.W.Frag} {σ : L2.St} {H : Hp} {te ta tb : TE} {tr tas : TA} {d : D} {ds : List D} {D : Ends}
theorem s_asgQ {i : Nat} (h : EvQ A te σ H d) (k : ∀ v H1, Same H H1 → Dq (mask A H1) v d → D.nx (σ.set i (some v)) H1) : tAsg te (gName i) D σ H := h H (Same.refl H) _ fun v H1 e hv => k v H1 e hv
theorem s_retQ (h : EvQ A te σ H d) (k : ∀ v H1, Same H H1 → Dq (mask A H1) v d → D.rt v H1) : tRet te D σ H := h H (Same.refl H) _ fun v H1 e hv => k v H1 e hv
theorem Dq.un {v : V} (h : Dq (mask A H) v d) : Dq H v d := h.same mask_un
theorem Dq.no {v : V} (h : Dq H v d) : Dq (mask noA H) v d := by rw [mask_no]; exact h
/-- rows = a + b, the new list apart from its items -/
theorem s_asgCat {i : Nat} {as bs : List HX.D} (ha : EvQ noA ta σ H (.lst as)) (hb : EvQ noA tb σ H (.lst bs)) (hl : as.length + bs.length ≤ 1000)
    (k : ∀ p xs H1, Same H H1 → H p = none → H1 p = some (.lst xs) → DqAll (mask (only p) H1) xs (as ++ bs) → D.nx (σ.set i (some (.ref p))) H1) : tAsg (tOp rCat ta tb) (gName i) D σ H :=
  ha H (Same.refl H) _ fun v H2 e2 hv => hb H2 e2 _ fun u H3 e3 hu => by
    obtain ⟨a, xs, rfl, h1, r1⟩ := (hv.same (mask_same e3)).lst_inv
    obtain ⟨b, ys, rfl, h2, r2⟩ := hu.lst_inv
    have l1 := r1.length
    have l2 := r2.length
    rw [mask_no] at r1 r2
    refine ⟨a, b, xs, ys, rfl, rfl, (mask_some h1).1, (mask_some h2).1, Evl.sz_of (by omega), fun p hp => ?_⟩
    have s3 : Same H3 (upd H3 p (.lst (xs ++ ys))) := Evl.Ex.new hp
    refine k p (xs ++ ys) _ (Same.trans (Same.trans e2 e3) s3) (Evl.fresh_back (Same.trans e2 e3) hp) upd_same ((r1.append r2).same fun b o hb => ?_)
    have nb : b ≠ p := ne_of_none hb hp
    rw [mask_at (show only p b = false from Bool.or_eq_false_iff.mpr ⟨rfl, decide_eq_false nb⟩), upd_ne nb]
    exact hb
/-- rows.append(e) -/
theorem s_appQ {p : Addr} {xs : List V} (hl : H p = some (.lst xs)) (ha : Evl.Ev ta σ H (.ref p)) (h : EvQ (only p) te σ H d) (hx : DqAll (mask (only p) H) xs ds) (hz : ds.length < 1000)
    (k : ∀ v H1, (∀ b o, b ≠ p → H b = some o → H1 b = some o) → H1 p = some (.lst (xs ++ [v])) → DqAll (mask (only p) H1) (xs ++ [v]) (ds ++ [d]) → Same (mask (only p) H) (mask (only p) H1) → D.nx σ H1) :
    tDrop (tBM K "list" rAppend ta (tCons te tNil)) D σ H := ha H (Same.refl H) _ fun H1 e1 =>
  ⟨Or.inl ⟨rfl, xs, Evl.sq_of (e1 p _ hl)⟩, h H1 e1 _ fun v H2 e2 hv => ⟨p, xs, v, rfl, rfl, e2 p _ (e1 p _ hl), Evl.sz_lt (by rw [hx.length]; omega), by
    have e12 : Same H H2 := Same.trans e1 e2
    refine k v _ (fun b o hb e => by rw [upd_ne hb]; exact e12 _ _ e) upd_same (((hx.same (mask_same e12)).append (.cons hv .nil)).same mask_updP) (Same.trans (mask_same e12) mask_updP)⟩⟩
end
end HX

set_option maxRecDepth 100000
set_option maxHeartbeats 2000000
namespace HX
open PySem
open PySem.Sem (wp)
/-- the iterator of a list | a tuple (t); the list | tuple itself -/
def SIt (t : Bool) (h : Heap) (it l : Addr) (i : Nat) : Prop := match t with
  | true => h.IsTupleIter it l i
  | false => h.IsListIter it l i
def SSq (t : Bool) (h : Heap) (l : Addr) (xs : Array Value) : Prop := match t with
  | true => h.IsTuple l xs
  | false => h.IsList l xs
theorem SIt.go {t : Bool} {h h' : Heap} {it l : Addr} {i : Nat} (s : SIt t h it l i) (k : ∀ o, h.get? it = some o → h'.get? it = some o) : SIt t h' it l i := by
  cases t
  · exact Heap.IsListIter.at s k
  · exact Heap.IsTupleIter.at s k
theorem SIt.there {t : Bool} {h : Heap} {it l : Addr} {i : Nat} (s : SIt t h it l i) : ∃ o, h.get? it = some o ∧ ∃ vs, o.data = .fields vs := by
  cases t <;> obtain ⟨o, h1, _, h3⟩ := s <;> exact ⟨o, h1, _, h3⟩
theorem SSq.but {t : Bool} {h h' : Heap} {l b : Addr} {xs : Array Value} (s : SSq t h l xs) (k : Heap.ExtBut b h h') (n : l ≠ b) : SSq t h' l xs := by
  cases t
  · exact Heap.IsList.extBut s k n
  · exact Heap.IsTuple.extBut s k n
section
variable {prog : Program} {w : World} {A : Around} {E : Value → Shared → Prop} {s : Shared} {t : Bool}
theorem draw_item {it l : Addr} {i : Nat} {xs : Array Value} {x : Value} {Q : Value → Shared → Prop} (h1 : SIt t s.heap it l i) (h2 : SSq t s.heap l xs) (hx : xs[i]? = some x)
    (q : ∀ h', SIt t h' it l (i + 1) → Heap.SameBut it s.heap h' → Q x { s with heap := h' }) : wpAny (model prog w) A (Builtin.SmallTypes.nextOf (.ref it)) Q E s := by
  cases t
  · exact wpAny_nextOf_list_item h1 h2 hx q
  · exact RZ.nextOf_tuple_item h1 h2 hx q
theorem draw_end {it l : Addr} {i : Nat} {xs : Array Value} {Q : Value → Shared → Prop} (hh : A.handled = none) (h1 : SIt t s.heap it l i) (h2 : SSq t s.heap l xs) (hx : xs[i]? = none)
    (q : ∀ h' e, Heap.ExtBut it s.heap h' → (∃ o, h'.get? e = some o ∧ o.cls = .type "StopIteration") → E (.ref e) { s with heap := h' }) : wpAny (model prog w) A (Builtin.SmallTypes.nextOf (.ref it)) Q E s := by
  cases t
  · exact wpAny_nextOf_list_end hh h1 h2 hx q
  · exact RZ.nextOf_tuple_end hh h1 h2 hx q
/-- what the zip's own objects are apart from -/
structure Ap (z TI TO i1 i2 l1 l2 : Addr) : Prop where
  own : [z, TI, TO, i1, i2].Nodup
  a1 : l1 ∉ [z, TI, TO, i1, i2]
  a2 : l2 ∉ [z, TI, TO, i1, i2]
theorem Ap.ne {z TI TO i1 i2 l1 l2 : Addr} (D : Ap z TI TO i1 i2 l1 l2) : z ≠ TI ∧ z ≠ TO ∧ z ≠ i1 ∧ z ≠ i2 ∧ TI ≠ TO ∧ TI ≠ i1 ∧ TI ≠ i2 ∧ TO ≠ i1 ∧ TO ≠ i2 ∧ i1 ≠ i2 := by
  have h := D.own
  simp only [List.nodup_cons, List.mem_cons, List.not_mem_nil, or_false, not_or] at h
  exact ⟨h.1.1, h.1.2.1, h.1.2.2.1, h.1.2.2.2, h.2.1.1, h.2.1.2.1, h.2.1.2.2, h.2.2.1.1, h.2.2.1.2, h.2.2.2.1⟩
theorem Ap.l {z TI TO i1 i2 l1 l2 : Addr} (D : Ap z TI TO i1 i2 l1 l2) : (l1 ≠ z ∧ l1 ≠ TO ∧ l1 ≠ i1 ∧ l1 ≠ i2) ∧ (l2 ≠ z ∧ l2 ≠ TO ∧ l2 ≠ i1 ∧ l2 ≠ i2) := by
  have h := D.a1
  have g := D.a2
  simp only [List.mem_cons, List.not_mem_nil, or_false, not_or] at h g
  exact ⟨⟨h.1, h.2.2.1, h.2.2.2.1, h.2.2.2.2⟩, g.1, g.2.2.1, g.2.2.2.1, g.2.2.2.2⟩
/-- all but these stand as they did -/
def But (L : List Addr) (h h' : Heap) : Prop := ∀ c o, c ∉ L → h.get? c = some o → h'.get? c = some o
theorem But.of {L : List Addr} {b : Addr} {h h' : Heap} (k : Heap.ExtBut b h h') (m : b ∈ L) : But L h h' := fun c o n e => k c o (fun z => n (z ▸ m)) e
theorem But.tr {L : List Addr} {h h1 h2 : Heap} (a : But L h h1) (b : But L h1 h2) : But L h h2 := fun c o n e => b c o n (a c o n e)
theorem zipS_item {t1 t2 : Bool} {z TI TO i1 i2 l1 l2 : Addr} {k1 k2 : Nat} {xs ys : Array Value} {x y a b : Value} {Q : Value → Shared → Prop} (D : Ap z TI TO i1 i2 l1 l2)
    (hz : IsZip s.heap z TI TO .none) (hp1 : IsPair s.heap TI (.ref i1) (.ref i2)) (hp2 : IsPair s.heap TO a b)
    (h1 : SIt t1 s.heap i1 l1 k1) (h2 : SIt t2 s.heap i2 l2 k2) (hl1 : SSq t1 s.heap l1 xs) (hl2 : SSq t2 s.heap l2 ys) (hx : xs[k1]? = some x) (hy : ys[k2]? = some y)
    (q : ∀ h', IsZip h' z TI TO (rawInt s.heap.objs.size) ∧ IsPair h' TO x y ∧ SIt t1 h' i1 l1 (k1 + 1) ∧ SIt t2 h' i2 l2 (k2 + 1) ∧ IsPair h' s.heap.objs.size x y → But [z, TO, i1, i2] s.heap h' → Q (.ref s.heap.objs.size) { s with heap := h' }) :
    wpAny (model prog w) A (Builtin.«zip.__next__» ⟨[.ref z], []⟩) (fun f s2 => ∃ v, f = .done (.ret v) ∧ Q v s2) E s := by
  obtain ⟨⟨c1, c2, c3, c4⟩, d1, d2, d3, d4⟩ := D.l
  obtain ⟨e1, e2, e3, e4, e5, e6, e7, e8, e9, e10⟩ := D.ne
  rcases s with ⟨hp, g, d, tk, os⟩
  iterate 56 wp_step
  refine wpAny_bind (wpAny_setField_rec hz (by simp) fun H1 z1 b1 => wpAny_bind ?_)
  simp only [List.forIn_cons, List.forIn_nil, List.zipIdx_cons, List.zipIdx_nil]
  have x1 := b1.extBut
  refine wpAny_bind (wpAny_bind (wpAny_onRaise (wpAny_bind (m := Builtin.SmallTypes.nextOf (.ref i1)) (draw_item (t := t1) (h1.go fun o e => x1 _ _ e3.symm e) (hl1.but x1 c1) hx fun H2 j1 b2 => ?_))))
  have x2 := b2.extBut
  have p2 : IsPair H2 TO a b := x2 _ _ e8 (x1 _ _ e2.symm hp2)
  refine wpAny_pure (wpAny_bind (wpAny_seqItems p2 rfl (wpAny_bind (wpAny_updateSeq_pair p2 fun H3 p3 b3 => wpAny_bind (wpAny_letGo (wpAny_pure ?_))))))
  have x3 := b3.extBut
  have p3' : IsPair H3 TO x b := p3
  refine wpAny_bind (wpAny_bind (wpAny_onRaise (wpAny_bind (m := Builtin.SmallTypes.nextOf (.ref i2)) (draw_item (t := t2) (h2.go fun o e => x3 _ _ e9.symm (x2 _ _ e10.symm (x1 _ _ e4.symm e))) (((hl2.but x1 d1).but x2 d3).but x3 d2) hy fun H4 j2 b4 => ?_))))
  have x4 := b4.extBut
  have p4 : IsPair H4 TO x b := x4 _ _ e9 p3'
  refine wpAny_pure (wpAny_bind (wpAny_seqItems p4 rfl (wpAny_bind (wpAny_updateSeq_pair p4 fun H5 p5 b5 => wpAny_bind (wpAny_letGo (wpAny_pure (wpAny_pure ?_)))))))
  have x5 := b5.extBut
  have p5' : IsPair H5 TO x y := p5
  have z5 : IsZip H5 z TI TO .ellipsis := x5 _ _ e2 (x4 _ _ e4 (x3 _ _ e2 (x2 _ _ e3 z1)))
  have n5 : H5.objs.size = hp.objs.size := (((b5.1.trans b4.1).trans b3.1).trans b2.1).trans b1.1
  have L1 : z ∈ [z, TO, i1, i2] := by simp
  have L2 : TO ∈ [z, TO, i1, i2] := by simp
  have L3 : i1 ∈ [z, TO, i1, i2] := by simp
  have L4 : i2 ∈ [z, TO, i1, i2] := by simp
  have k5 : But [z, TO, i1, i2] hp H5 := ((((But.of x1 L1).tr (.of x2 L3)).tr (.of x3 L2)).tr (.of x4 L4)).tr (.of x5 L2)
  have zl : z < H5.objs.size := Heap.lt_size z5
  have u1 : SIt t1 H5 i1 l1 (k1 + 1) := j1.go fun o e => x5 _ _ e8.symm (x4 _ _ e10 (x3 _ _ e8.symm e))
  have u2 : SIt t2 H5 i2 l2 (k2 + 1) := j2.go fun o e => x5 _ _ e9.symm e
  refine wpAny_bind (wpAny_seqItems p5' rfl (wpAny_bind (wpAny_newTuple (wpAny_bind (m := Builtin.SmallTypes.ownedTupleHandOut _ (.ref H5.objs.size)) ?_))))
  have z6 : IsZip (H5.push { cls := .type "tuple", data := .seq #[x, y] }) z TI TO .ellipsis := Heap.get?_push_of_some _ z5
  refine wpAny_bind (wpAny_setField_rec z6 (by simp) fun H7 z7 b7 => wpAny_setField_rec z7 (by simp) fun H8 z8 b8 => ?_)
  have far : ∀ c o, c ≠ z → (H5.push { cls := .type "tuple", data := .seq #[x, y] }).get? c = some o → H8.get? c = some o := fun c o n e => b8.extBut _ _ n (b7.extBut _ _ n e)
  have up : ∀ c o, c ≠ z → H5.get? c = some o → H8.get? c = some o := fun c o n e => far c o n (Heap.get?_push_of_some _ e)
  refine wpAny_pure (Exists.intro _ ⟨rfl, ?_⟩)
  have f := q H8 ⟨?_, up _ _ e2.symm p5', u1.go fun o e => up _ o e3.symm e, u2.go fun o e => up _ o e4.symm e, ?_⟩ (k5.tr fun c o n e => up c o (fun w => n (w ▸ L1)) e)
  · have e0 : (Value.ref H5.objs.size) = .ref hp.objs.size := by rw [n5]
    show Q (Value.ref H5.objs.size) _
    rw [e0]
    exact f
  · show IsZip H8 z TI TO (rawInt hp.objs.size)
    rw [← n5]
    exact z8
  · show IsPair H8 hp.objs.size x y
    rw [← n5]
    exact far _ _ (Nat.ne_of_gt zl) (Heap.get?_push_size _ rfl)
theorem zipS_end {t1 t2 : Bool} {z TI TO i1 i2 l1 l2 : Addr} {k1 k2 : Nat} {xs ys : Array Value} {a b : Value} {Q : Fin → Shared → Prop} (hh : A.handled = none) (D : Ap z TI TO i1 i2 l1 l2)
    (hz : IsZip s.heap z TI TO .none) (hp1 : IsPair s.heap TI (.ref i1) (.ref i2)) (hp2 : IsPair s.heap TO a b)
    (h1 : SIt t1 s.heap i1 l1 k1) (h2 : SIt t2 s.heap i2 l2 k2) (hl1 : SSq t1 s.heap l1 xs) (hl2 : SSq t2 s.heap l2 ys) (hn : xs[k1]? = none ∨ ys[k2]? = none)
    (q : ∀ h' e, But [z, TO, i1, i2] s.heap h' → (∃ o, h'.get? e = some o ∧ o.cls = .type "StopIteration") → E (.ref e) { s with heap := h' }) : wpAny (model prog w) A (Builtin.«zip.__next__» ⟨[.ref z], []⟩) Q E s := by
  obtain ⟨⟨c1, c2, c3, c4⟩, d1, d2, d3, d4⟩ := D.l
  obtain ⟨e1, e2, e3, e4, e5, e6, e7, e8, e9, e10⟩ := D.ne
  rcases s with ⟨hp, g, d, tk, os⟩
  iterate 56 wp_step
  refine wpAny_bind (wpAny_setField_rec hz (by simp) fun H1 z1 b1 => wpAny_bind ?_)
  simp only [List.forIn_cons, List.forIn_nil, List.zipIdx_cons, List.zipIdx_nil]
  have x1 := b1.extBut
  have L1 : z ∈ [z, TO, i1, i2] := by simp
  have L2 : TO ∈ [z, TO, i1, i2] := by simp
  have L3 : i1 ∈ [z, TO, i1, i2] := by simp
  have L4 : i2 ∈ [z, TO, i1, i2] := by simp
  have no : ∀ (h : Heap) (e : Addr), IsZip h z TI TO .ellipsis → (∃ o, h.get? e = some o ∧ o.cls = .type "StopIteration") → e ≠ z := fun h e hz he w => by
    obtain ⟨o, ho, hc⟩ := he
    rw [w, hz] at ho
    cases ho
    simp at hc
  by_cases nx : xs[k1]? = none
  · refine wpAny_bind (wpAny_bind (wpAny_onRaise (wpAny_bind (m := Builtin.SmallTypes.nextOf (.ref i1)) (draw_end (t := t1) hh (h1.go fun o e => x1 _ _ e3.symm e) (hl1.but x1 c1) nx fun H2 e x2 he => ?_))))
    have z2 : IsZip H2 z TI TO .ellipsis := x2 _ _ e3 z1
    have ne := no H2 e z2 he
    exact wpAny_setField_rec z2 (by simp) fun H3 z3 b3 => q H3 e (((But.of x1 L1).tr (.of x2 L3)).tr (.of b3.extBut L1)) (he.imp fun o p => ⟨b3.extBut _ _ ne p.1, p.2⟩)
  · obtain ⟨x, hx⟩ : ∃ x, xs[k1]? = some x := Option.ne_none_iff_exists'.mp nx
    have ny : ys[k2]? = none := hn.resolve_left nx
    refine wpAny_bind (wpAny_bind (wpAny_onRaise (wpAny_bind (m := Builtin.SmallTypes.nextOf (.ref i1)) (draw_item (t := t1) (h1.go fun o e => x1 _ _ e3.symm e) (hl1.but x1 c1) hx fun H2 j1 b2 => ?_))))
    have x2 := b2.extBut
    have p2 : IsPair H2 TO a b := x2 _ _ e8 (x1 _ _ e2.symm hp2)
    refine wpAny_pure (wpAny_bind (wpAny_seqItems p2 rfl (wpAny_bind (wpAny_updateSeq_pair p2 fun H3 p3 b3 => wpAny_bind (wpAny_letGo (wpAny_pure ?_))))))
    have x3 := b3.extBut
    refine wpAny_bind (wpAny_bind (wpAny_onRaise (wpAny_bind (m := Builtin.SmallTypes.nextOf (.ref i2)) (draw_end (t := t2) hh (h2.go fun o e => x3 _ _ e9.symm (x2 _ _ e10.symm (x1 _ _ e4.symm e))) (((hl2.but x1 d1).but x2 d3).but x3 d2) ny fun H4 e x4 he => ?_))))
    have z4 : IsZip H4 z TI TO .ellipsis := x4 _ _ e4 (x3 _ _ e2 (x2 _ _ e3 z1))
    have ne := no H4 e z4 he
    exact wpAny_setField_rec z4 (by simp) fun H5 z5 b5 => q H5 e (((((But.of x1 L1).tr (.of x2 L3)).tr (.of x3 L2)).tr (.of x4 L4)).tr (.of b5.extBut L1)) (he.imp fun o p => ⟨b5.extBut _ _ ne p.1, p.2⟩)
theorem next_of_zip {z TI TO : Addr} {Q : Option Value → Shared → Prop} (hz : IsZip s.heap z TI TO .none)
    (h : wpAny (model prog w) A.in1 (Builtin.«zip.__next__» ⟨[.ref z], []⟩) (fun fin s' => ∃ v, fin = .done (.ret v) ∧ Q (some v) s') (fun e s' => (∃ a, e = .ref a ∧ ∃ o, s'.heap.get? a = some o ∧ o.cls = .type "StopIteration") ∧ Q none s') s) : wpAny (model prog w) A (pyNext (.ref z)) Q E s := by
  unfold pyNext
  refine wpAny_bind (wpAny_attempt (wpAny_callSpecial?_slot (name := Str.ofString "__next__") ⟨_, hz, rfl⟩ F.slot_zip_next (wpAny_call_entry F.slot_zip_next ⟨_, hz, rfl⟩ F.entry_zip_next (wpAny_mono h (fun f s' ⟨v, e, q⟩ => ⟨v, e, wpAny_pure q⟩) (fun e s' ⟨⟨a, ea, o, ho, hc⟩, q⟩ => ?_)) (F.args_zip_next_1 _))))
  subst ea
  exact wpAny_bind (wpAny_isInstance (T := "StopIteration") (b := true) ⟨o, ho, hc⟩ isSubtype_stop (wpAny_pure q))
end
end HX

set_option maxRecDepth 100000
set_option maxHeartbeats 2000000
namespace HX
open PySem PySem.Spec PyProof.Rows L2
def itC (t : Bool) (l : Addr) : Obj := match t with
  | true => { cls := .type "tuple_iterator", data := .fields #[.ref l, .int 0 0] }
  | false => { cls := .type "list_iterator", data := .fields #[.ref l, .int 0 0] }
theorem SIt.new {t : Bool} {h : Heap} {it l : Addr} (e : h.get? it = some (itC t l)) : SIt t h it l 0 := by
  cases t <;> exact ⟨_, e, rfl, rfl⟩
theorem SSq.push {t : Bool} {h : Heap} {l : Addr} {xs : Array Value} (s : SSq t h l xs) (o : Obj) : SSq t (h.push o) l xs := by
  cases t
  · exact Heap.IsList.push s o
  · exact Heap.IsTuple.push s o
/-- the five objects of a zip, laid one behind the other -/
def lay (t1 t2 : Bool) (l1 l2 : Addr) (h : Heap) : Heap :=
  ((((h.push (itC t1 l1)).push (itC t2 l2)).push { cls := .type "tuple", data := .seq #[.ref h.objs.size, .ref (h.push (itC t1 l1)).objs.size] }).push { cls := .type "tuple", data := .seq #[.none, .none] }).push
    { cls := .type "zip", data := .fields #[.none, .bool false, .bool false, .ref ((h.push (itC t1 l1)).push (itC t2 l2)).objs.size, .ref (((h.push (itC t1 l1)).push (itC t2 l2)).push { cls := .type "tuple", data := .seq #[.ref h.objs.size, .ref (h.push (itC t1 l1)).objs.size] }).objs.size] }
theorem zipS_new (l1 l2 : Addr) (xs ys : Array Value) : Meets (Builtin.«zip.__new__» ⟨[.type "zip", .ref l1, .ref l2], []⟩) (fun _ R s => SSq true s.heap l1 xs ∧ SSq false s.heap l2 ys ∧ R (.ok (.ret (.ref (s.heap.objs.size + 4)))) { s with heap := lay true false l1 l2 s.heap }) :=
  Meets.of_wp fun _ _ A R s h => by
    obtain ⟨q1, q2, r⟩ := h
    rcases s with ⟨hp, g, d, tk, os⟩
    have n4 : ∀ o1 o2 o3 o4 : Obj, ((((hp.push o1).push o2).push o3).push o4).objs.size = hp.objs.size + 4 := fun o1 o2 o3 o4 => by simp only [Heap.size_push]
    have z := sub_zip
    have p2 := q2.push (itC true l1)
    have a1 : Heap.IsTuple (Shared.heap ⟨hp, g, d, tk, os⟩) l1 xs := q1
    have a2 : Heap.IsList (Shared.heap ⟨hp.push ⟨.type "tuple_iterator", none, .fields #[.ref l1, .int 0 0], #[]⟩, g, d, tk, os⟩) l2 ys := p2
    wp_walk using wpAny_pyIter_tuple a1, wpAny_pyIter_list a2
    refine ⟨_, rfl, ?_⟩
    rw [n4]
    exact r
/-- what stands behind the call, from the first free place on -/
structure Laid (t1 t2 : Bool) (l1 l2 n : Addr) (h h' : Heap) : Prop where
  z : IsZip h' (n + 4) (n + 2) (n + 3) .none
  p : IsPair h' (n + 2) (.ref n) (.ref (n + 1))
  q : IsPair h' (n + 3) .none .none
  i1 : SIt t1 h' n l1 0
  i2 : SIt t2 h' (n + 1) l2 0
  kp : ∀ c o, h.get? c = some o → h'.get? c = some o
theorem lay_ok {t1 t2 : Bool} {l1 l2 : Addr} {h : Heap} : Laid t1 t2 l1 l2 h.objs.size h (lay t1 t2 l1 l2 h) := by
  have s1 : (h.push (itC t1 l1)).objs.size = h.objs.size + 1 := Heap.size_push ..
  have s2 : ((h.push (itC t1 l1)).push (itC t2 l2)).objs.size = h.objs.size + 2 := by rw [Heap.size_push, s1]
  refine ⟨?_, ?_, ?_, SIt.new ?_, SIt.new ?_, fun c o e => ?_⟩ <;> unfold lay <;> simp only [s2, s1, Heap.size_push]
  · have g := Heap.get?_push_size ((((h.push (itC t1 l1)).push (itC t2 l2)).push { cls := .type "tuple", data := .seq #[.ref h.objs.size, .ref (h.objs.size + 1)] }).push { cls := .type "tuple", data := .seq #[.none, .none] }) (o := { cls := .type "zip", data := .fields #[.none, .bool false, .bool false, .ref (h.objs.size + 2), .ref (h.objs.size + 3)] }) rfl
    simp only [Heap.size_push] at g
    exact g
  · have g := Heap.get?_push_size ((h.push (itC t1 l1)).push (itC t2 l2)) (o := { cls := .type "tuple", data := .seq #[.ref h.objs.size, .ref (h.objs.size + 1)] }) rfl
    simp only [Heap.size_push] at g
    exact Heap.get?_push_of_some _ (Heap.get?_push_of_some _ g)
  · have g := Heap.get?_push_size (((h.push (itC t1 l1)).push (itC t2 l2)).push { cls := .type "tuple", data := .seq #[.ref h.objs.size, .ref (h.objs.size + 1)] }) (o := { cls := .type "tuple", data := .seq #[.none, .none] }) rfl
    simp only [Heap.size_push] at g
    exact Heap.get?_push_of_some _ g
  · exact Heap.get?_push_of_some _ (Heap.get?_push_of_some _ (Heap.get?_push_of_some _ (Heap.get?_push_of_some _ (Heap.get?_push_size _ (by cases t1 <;> rfl)))))
  · have g := Heap.get?_push_size (h.push (itC t1 l1)) (o := itC t2 l2) (by cases t2 <;> rfl)
    rw [s1] at g
    exact Heap.get?_push_of_some _ (Heap.get?_push_of_some _ (Heap.get?_push_of_some _ g))
  · exact Heap.get?_push_of_some _ (Heap.get?_push_of_some _ (Heap.get?_push_of_some _ (Heap.get?_push_of_some _ (Heap.get?_push_of_some _ e))))
theorem zipS_call {prog : Program} {w : World} {A : Around} {E : Value → Shared → Prop} {s : Shared} {l1 l2 : Addr} {xs ys : Array Value} {Q : Value → Shared → Prop} (q1 : SSq true s.heap l1 xs) (q2 : SSq false s.heap l2 ys)
    (h : ∀ h', Laid true false l1 l2 s.heap.objs.size s.heap h' → Q (.ref (s.heap.objs.size + 4)) { s with heap := h' }) : wpAny (model prog w) A (call (.type "zip") [.ref l1, .ref l2]) Q E s := by
  refine callType_new F.called_zip (by decide) (F.typeCall_zip_2 _ _) (F.newCall_zip_2 _ _) (fun obj => F.args_object_init_3 obj _ _) F.entry_zip_new (zipS_new l1 l2 xs ys) ⟨q1, q2, ?_⟩
  have k : Laid true false l1 l2 s.heap.objs.size s.heap (lay true false l1 l2 s.heap) := lay_ok
  exact ⟨⟨_, k.z, rfl⟩, h _ k⟩
/-- the tuple at a and the list at b as they stand at each turn, the items in new pairs -/
def ItzM (K : PySem.W.Frag) (a b : Addr) : It where
  go := fun i H => ∃ (xs ys : List V) (x y : V), SqT K H a xs ∧ SqL K H b ys ∧ xs[i]? = some x ∧ ys[i]? = some y
  yld := fun i H v H' => ∃ T x y, v = .ref T ∧ H T = none ∧ H' = upd H T (.tup [x, y]) ∧ (∀ xs, SqT K H a xs → xs[i]? = some x) ∧ ∀ ys, SqL K H b ys → ys[i]? = some y
  stop := fun i H => ∃ xs ys : List V, SqT K H a xs ∧ SqL K H b ys ∧ (xs.length ≤ i ∨ ys.length ≤ i)
def zTn (a b z TI TO i1 i2 : Addr) (i : Nat) (h : Heap) : Prop := IsZip h z TI TO .none ∧ IsPair h TI (.ref i1) (.ref i2) ∧ (∃ x y, IsPair h TO x y) ∧ SIt true h i1 a i ∧ SIt false h i2 b i
theorem turn_zipM {P : Program} {w : World} {K : PySem.W.Frag} {elts : List Expr} {kk : Nat} {tpos : Pos} {a b z TI TO i1 i2 : Addr} (D : Ap z TI TO i1 i2 a b) :
    Turn P w K (.Tuple elts kk tpos) (ItzM K a b) [z, TI, TO, i1, i2] z (zTn a b z TI TO i1 i2) where
  mem := List.mem_cons_self
  obj := fun i h st c hc => by
    obtain ⟨hz, hTI, ⟨x, y, hTO⟩, g1, g2⟩ := st
    obtain ⟨o1, f1, v1, d1⟩ := g1.there
    obtain ⟨o2, f2, v2, d2⟩ := g2.there
    simp only [List.mem_cons, List.not_mem_nil, or_false] at hc
    rcases hc with rfl | rfl | rfl | rfl | rfl
    · exact ⟨_, hz, fun _ q => nomatch q⟩
    · exact ⟨_, hTI, fun _ q => nomatch q⟩
    · exact ⟨_, hTO, fun _ q => nomatch q⟩
    · exact ⟨o1, f1, fun _ q => by rw [d1] at q; cases q⟩
    · exact ⟨o2, f2, fun _ q => by rw [d2] at q; cases q⟩
  keep := fun i h h' ⟨hz, hTI, ⟨x, y, hTO⟩, g1, g2⟩ k =>
    ⟨k z (by simp) _ hz, k TI (by simp) _ hTI, ⟨x, y, k TO (by simp) _ hTO⟩, g1.go (k i1 (by simp)), g2.go (k i2 (by simp))⟩
  item := fun X hP hw hK hc i pins s σ H E I hf st hg => by
    subst hP hw hK
    obtain ⟨hz, hTI, ⟨x0, y0, hTO⟩, g1, g2⟩ := st
    obtain ⟨xs, ys, x, y, q1, q2, hx, hy⟩ := hg
    obtain ⟨us, r1, p1, _⟩ := I.tuple q1
    obtain ⟨vs, r2, p2, _⟩ := I.list q2
    obtain ⟨u, hu, ru⟩ := r1.get hx
    obtain ⟨v, hv, rv⟩ := r2.get hy
    have lt : ∀ c ∈ [z, TI, TO, i1, i2], c < s.heap.objs.size := fun c hcm => by
      obtain ⟨o1, f1, _⟩ := g1.there
      obtain ⟨o2, f2, _⟩ := g2.there
      simp only [List.mem_cons, List.not_mem_nil, or_false] at hcm
      rcases hcm with rfl | rfl | rfl | rfl | rfl
      · exact Heap.lt_size hz
      · exact Heap.lt_size hTI
      · exact Heap.lt_size hTO
      · exact Heap.lt_size f1
      · exact Heap.lt_size f2
    refine next_of_zip hz (zipS_item (t1 := true) (t2 := false) D hz hTI hTO g1 g2 (xs := us.toArray) (ys := vs.toArray) p1 p2.isList (x := u) (y := v) (by simpa using hu) (by simpa using hv) fun h' ⟨z', TO', j1, j2, hT⟩ hk => ?_)
    refine ⟨_, rfl, wpAny_letOwnedTupleGo_zip (s := { s with heap := h' }) z' fun h2 z2 sb => ?_⟩
    have big : s.heap.objs.size ≠ z := Nat.ne_of_gt (lt z List.mem_cons_self)
    have sub : ∀ c ∉ [z, TI, TO, i1, i2], c ∉ [z, TO, i1, i2] := fun c hc m => hc (by
      simp only [List.mem_cons, List.not_mem_nil, or_false] at m ⊢
      rcases m with m | m | m | m <;> simp [m])
    have kp : ∀ c o, c ∉ [z, TI, TO, i1, i2] → s.heap.get? c = some o → h2.get? c = some o := fun c o n e => (sb.2 c (fun w => n (w ▸ List.mem_cons_self))).trans (hk c o (sub c n) e)
    have fresh := I.hok.fresh (Nat.le_refl s.heap.objs.size)
    have new : ObjOk X.prog X.w (upd H s.heap.objs.size (.tup [x, y])) h2 s.heap.objs.size (.tup [x, y]) := ⟨by show 2 ≤ sizeLine; decide, [u, v], .cons ru (.cons rv .nil), _, (sb.2 _ big).trans hT, rfl, _, rfl⟩
    have I1 : Inv X pins σ (upd H s.heap.objs.size (.tup [x, y])) { s with heap := h2 } := I.turnedNew (t' := s.toks) (ch := [z, TI, TO, i1, i2]) (fun c o hb q => kp c o hb q) hf (Nat.le_refl _) new
    obtain ⟨e1, e2, e3, e4, e5, e6, e7, e8, e9, e10⟩ := D.ne
    refine ⟨.ref s.heap.objs.size, _, I1, rfl, ⟨_, x, y, rfl, fresh, rfl, fun l hl => ?_, fun l hl => ?_⟩, ⟨z2, ?_, ⟨u, v, (sb.2 _ e2.symm).trans TO'⟩, j1.go fun o q => (sb.2 _ e3.symm).trans q, j2.go fun o q => (sb.2 _ e4.symm).trans q⟩, fun c hcm => ?_⟩
    · rw [I.tuple_inj hl q1]
      exact hx
    · rw [I.list_inj hl q2]
      exact hy
    · refine (sb.2 _ e1.symm).trans (hk _ _ ?_ hTI)
      simp only [List.mem_cons, List.not_mem_nil, or_false, not_or]
      exact ⟨e1.symm, e5, e6, e7⟩
    · rw [upd_ne (Nat.ne_of_lt (lt c hcm))]
      exact (hf c hcm).1
  done := fun X hP hw hK hc i pins s σ H E I hf st hg => by
    subst hP hw hK
    obtain ⟨hz, hTI, ⟨x0, y0, hTO⟩, g1, g2⟩ := st
    obtain ⟨xs, ys, q1, q2, hend⟩ := hg
    obtain ⟨us, r1, p1, _⟩ := I.tuple q1
    obtain ⟨vs, r2, p2, _⟩ := I.list q2
    have n1 := r1.length
    have n2 := r2.length
    refine next_of_zip hz (zipS_end (t1 := true) (t2 := false) (I.ok.hd hc) D hz hTI hTO g1 g2 (xs := us.toArray) (ys := vs.toArray) p1 p2.isList (hend.imp (fun q => by simp; omega) fun q => by simp; omega) fun h' e hk he => ?_)
    refine ⟨⟨e, rfl, he⟩, rfl, I.turnedL (t' := s.toks) (ch := [z, TI, TO, i1, i2]) (fun c o hb q => hk c o (fun m => hb ?_) q) hf⟩
    simp only [List.mem_cons, List.not_mem_nil, or_false] at m ⊢
    rcases m with m | m | m | m <;> simp [m]
  self := fun _ _ _ _ _ st q => wpAny_pyIter_zip st.1 q
theorem five_le (n c : Nat) (h : c ∈ [n + 4, n + 2, n + 3, n, n + 1]) : n ≤ c := by
  simp at h
  omega
theorem ap_at (n a b : Nat) (ha : a < n) (hb : b < n) : Ap (n + 4) (n + 2) (n + 3) n (n + 1) a b :=
  ⟨by simp, fun h => absurd (five_le n a h) (by omega), fun h => absurd (five_le n b h) (by omega)⟩
def iZipM (K : PySem.W.Frag) (ta : TA) : TI := fun σ H R => ta σ H fun vs H1 => ∃ a b xs ys, vs = [.ref a, .ref b] ∧ SqT K H1 a xs ∧ SqL K H1 b ys ∧ R (ItzM K a b) H1
/-- zip(a tuple, a list) -/
theorem pi_zipM {X : Cx} {e e2 : Expr} {ta : TA} {p pos tpos : Pos} {elts : List Expr} {kk : Nat} (hg : Gl X "zip") (hm : X.mg "zip" = none) (ha : PA X [e, e2] ta)
    (hs : starEach [e, e2] X.env = (false, eval e X.env) :: starEach [e2] X.env := by rfl) (hpl : (backTo pos (starEach [e2] X.env)).any (·.1) = false := by rfl) : PI X (.Tuple elts kk tpos) (.Call (.Name "zip" p) [e, e2] [] pos) (iZipM X.K ta) where
  run := fun pins s σ H R I h => by
    refine Call_ (ld_blt I hg hm PyProof.Rows.boot_zip (PyProof.Rows.callWith_type1 (thn (ha.run pos pins s σ H _ I h) fun us s1 ⟨vs, H1, I1, r1, a, b, xs, ys, ex, q1, q2, q⟩ => ?_) hs hpl))
    subst ex
    obtain ⟨u1, p1⟩ := I1.tuple q1
    obtain ⟨u2, p2⟩ := I1.list q2
    obtain ⟨_, t1, _⟩ := p1
    obtain ⟨_, t2, _⟩ := p2
    obtain ⟨o1, ho1, _⟩ := id t1
    have la := Heap.lt_size ho1
    have lb := t2.lt
    cases r1 with
    | cons r rr =>
      cases rr with
      | cons r' rr =>
        cases rr
        cases r
        cases r'
        refine zipS_call (xs := u1.toArray) (ys := u2.toArray) t1 t2.isList fun h' k => wpAny_pyIter_zip k.z ?_
        have I2 : Inv X pins σ H1 { s1 with heap := h' } := I1.kept (t' := s1.toks) k.kp
        have D := ap_at _ _ _ la lb
        refine ⟨s1.heap.objs.size + 4, [s1.heap.objs.size + 4, s1.heap.objs.size + 2, s1.heap.objs.size + 3, s1.heap.objs.size, s1.heap.objs.size + 1], _, _, H1, rfl, I2, turn_zipM D, ⟨k.z, k.p, ⟨_, _, k.q⟩, k.i1, k.i2⟩, fun c hcm => ?_, q⟩
        have hle := five_le _ c hcm
        exact I1.fpOk (H' := H1) hle (I1.hok.fresh hle)
end HX

set_option maxRecDepth 100000
set_option maxHeartbeats 3000000
/-! data evaluated: comprehensions, calls, subscripts, told as data -/
namespace HX
open PySem PySem.Spec PyProof.Rows L2
/-- what holds no object -/
def D.flat : D → Bool
  | .non => true
  | .bl _ => true
  | .int _ => true
  | .str _ => true
  | _ => false
theorem Dq.flat_any {H H' : Hp} {v : V} {d : D} (f : d.flat = true) (h : Dq H v d) : Dq H' v d := by
  cases h with
  | non => exact .non
  | bl b => exact .bl b
  | int i => exact .int i
  | str x hx => exact .str x hx
  | _ => cases f
theorem DqAll.flat_any {H H' : Hp} : ∀ {vs : List V} {ds : List D}, ds.all D.flat = true → DqAll H vs ds → DqAll H' vs ds
  | _, _, _, .nil => .nil
  | _, _, f, .cons h r => by
    rw [List.all_cons, Bool.and_eq_true_iff] at f
    exact .cons (h.flat_any f.1) (DqAll.flat_any f.2 r)
theorem DqKv.append {H : Hp} : ∀ {xs ys : List (Key × V)} {as bs : List (Key × D)}, DqKv H xs as → DqKv H ys bs → DqKv H (xs ++ ys) (as ++ bs)
  | _, _, _, _, .nil, s => s
  | _, _, _, _, .cons k r t, s => .cons k r (DqKv.append t s)
theorem Dq.dic_inv {H : Hp} {v : V} {l : List (Key × D)} (h : Dq H v (.dic l)) : ∃ a kvs, v = .ref a ∧ H a = some (.dK kvs) ∧ (kvs.map (·.1)).Nodup ∧ DqKv H kvs l := by
  cases h with
  | dic h n r => exact ⟨_, _, rfl, h, n, r⟩
theorem Dq.int_inv {H : Hp} {v : V} {i : Int} (h : Dq H v (.int i)) : v = .int i := by cases h; rfl
theorem Dq.str_inv {H : Hp} {v : V} {x : Str} (h : Dq H v (.str x)) : v = .str x := by cases h; rfl
theorem Dq.bl_inv {H : Hp} {v : V} {b : Bool} (h : Dq H v (.bl b)) : v = .bl b := by cases h; rfl
theorem Dq.is_non {H : Hp} {v : V} {d : D} (h : Dq H v d) : decide (v = .non) = match d with
  | .non => true
  | _ => false := by
  cases h with
  | non => exact decide_eq_true rfl
  | _ => exact decide_eq_false (fun z => by cases z)
section
variable {X : Cx}
theorem pg_tupK (K : PySem.W.Frag) {es : List Expr} {n k : Nat} {t : TGs} {pos : Pos} (hc : X.calm = true) (ht : PGs X es t) (few : (assignEach es X.env).length = n := by rfl) (plain : (assignEach es X.env).findIdx? (·.1) = none := by rfl) (h : X.K = K := by rfl) : PG X (.Tuple es k pos) (gTup K n t) := by
  subst h
  exact pg_tup (n := n) hc ht few plain
theorem pa_starK (K : PySem.W.Frag) {e : Expr} {es : List Expr} {te : TE} {t : TA} {p : Pos} (he : PE X e te) (hr : PA X es t) (hs : starEach (.Starred e p :: es) X.env = (true, eval e X.env) :: starEach es X.env := by rfl) (h : X.K = K := by rfl) : PA X (.Starred e p :: es) (StX.tStar K te t) := by
  subst h
  exact StX.pa_star (t := t) he hr hs
end
section
variable {A B : Addr → Bool} {K : PySem.W.Frag} {σ : L2.St} {H : Hp} {te ta tb tk : TE} {tr tas : TA} {tt : TT} {d : D} {ds : List D}
theorem eq_ev {v : V} (h : Evl.Ev te σ H v) (hd : Dq (mask A H) v d) : EvQ A te σ H d := fun H1 e _ q => h H1 e _ fun H2 e2 => q v H2 e2 (hd.same (mask_same (Same.trans e e2)))
theorem ev_int_of {i : Int} (h : EvQ A te σ H (.int i)) : Evl.Ev te σ H (.int i) := fun H1 e _ q => h H1 e _ fun v H2 e2 hv => by
  rw [hv.int_inv]
  exact q H2 e2
theorem eq_flat (f : d.flat = true) (h : EvQ B te σ H d) : EvQ A te σ H d := fun H1 e _ q => h H1 e _ fun v H2 e2 hv => q v H2 e2 (hv.flat_any f)
theorem eq_is {d2 : D} (h : EvQ A te σ H d) (e : d = d2) : EvQ A te σ H d2 := by rw [← e]; exact h
theorem eq_if {b : Bool} (h : Evl.EvT tt σ H b) (h1 : b = true → EvQ A ta σ H d) (h2 : b = false → EvQ A tb σ H d) : EvQ A (tIf tt ta tb) σ H d := fun H1 e Q q => h H1 e _ fun H2 e2 => by
  have q2 : ∀ v H3, Same H2 H3 → Dq (mask A H3) v d → Q v H3 := fun v H3 e3 hv => q v H3 (Same.trans e2 e3) hv
  cases b with
  | true => exact h1 rfl H2 (Same.trans e e2) Q q2
  | false => exact h2 rfl H2 (Same.trans e e2) Q q2
theorem eq_ixL {i : Nat} (ha : EvQ B ta σ H (.lst ds)) (hb : Evl.Ev tb σ H (.int (i : Nat))) (hi : ds[i]? = some d) : EvQ B (tOp (rIxL K) ta tb) σ H d := fun H1 e _ q =>
  ha H1 e _ fun v H2 e2 hv => hb H2 (Same.trans e e2) _ fun H3 e3 => by
    obtain ⟨a, xs, rfl, hx, hl⟩ := (hv.same (mask_same e3)).lst_inv
    obtain ⟨u, hu, hd⟩ := hl.get' hi
    exact ⟨a, xs, _, u, rfl, rfl, Evl.sq_of (mask_some hx).1, atI_nat hu, q u H3 (Same.trans e2 e3) hd⟩
/-- tuple(a list) -/
theorem eq_tupL (t : Tr A H) (h : EvQ A ta σ H (.lst ds)) : EvQ A (tCB (fun xs H Q => ∃ p ys, xs = [.ref p] ∧ ((SqL K H p ys ∧ ∀ l, H l = none → Q (.ref l) (upd H l (.tup ys))) ∨ (SqT K H p ys ∧ Q (.ref p) H))) (tCons ta tNil)) σ H (.tup ds) := fun H1 e Q q =>
  h H1 e _ fun v H2 e2 hv => by
    obtain ⟨a, xs, rfl, hx, hl⟩ := hv.lst_inv
    refine ⟨a, xs, rfl, .inl ⟨Evl.sq_of (mask_some hx).1, fun p hp => ?_⟩⟩
    have s3 : Same H2 (upd H2 p (.tup xs)) := Evl.Ex.new hp
    have a3 : A p = false := (t.same (Same.trans e e2)).fresh hp
    exact q _ _ (Same.trans e2 s3) (.tup (by rw [mask_at a3]; exact upd_same) (hl.same (mask_same s3)))
/-- list(a list) of what holds no object -/
theorem eq_listL (t : Tr A H) (h : EvQ B ta σ H (.lst ds)) (f : ds.all D.flat = true) : EvQ A (tCB (Evl.rListS K) (tCons ta tNil)) σ H (.lst ds) := fun H1 e Q q =>
  h H1 e _ fun v H2 e2 hv => by
    obtain ⟨a, xs, rfl, hx, hl⟩ := hv.lst_inv
    refine ⟨a, xs, rfl, .inl (Evl.sq_of (mask_some hx).1), fun p hp => ?_⟩
    have s3 : Same H2 (upd H2 p (.lst xs)) := Evl.Ex.new hp
    have a3 : A p = false := (t.same (Same.trans e e2)).fresh hp
    exact q _ _ (Same.trans e2 s3) (.lst (by rw [mask_at a3]; exact upd_same) (hl.flat_any f))
/-- what a comprehension gives -/
def gaveD (n : Nat) (g : Nat → Bool) (f : Nat → D) : List D := ((List.range n).filter g).map f
theorem gaveD_yes {n : Nat} {g : Nat → Bool} {f : Nat → D} (h : g n = true) : gaveD (n + 1) g f = gaveD n g f ++ [f n] := by
  unfold gaveD
  rw [List.range_succ, List.filter_append, List.map_append, List.filter_cons, if_pos h, List.filter_nil, List.map_cons, List.map_nil]
theorem gaveD_no {n : Nat} {g : Nat → Bool} {f : Nat → D} (h : g n = false) : gaveD (n + 1) g f = gaveD n g f := by
  unfold gaveD
  rw [List.range_succ, List.filter_append, List.map_append, List.filter_cons, if_neg (by rw [h]; exact Bool.false_ne_true), List.filter_nil, List.map_nil, List.append_nil]
theorem gaveD_len {n : Nat} {g : Nat → Bool} {f : Nat → D} : (gaveD n g f).length ≤ n := by
  unfold gaveD
  rw [List.length_map]
  have h := List.length_filter_le g (List.range n)
  rwa [List.length_range] at h
/-- the new list of a comprehension, on the way -/
def LcI (A : Addr → Bool) (g : Nat → Bool) (f : Nat → D) (H1 : Hp) (Dl : Addr) (i : Nat) (H' : Hp) : Prop := H1 Dl = none ∧ Same H1 H' ∧ ∃ xs, H' Dl = some (.lst xs) ∧ DqAll (mask (plusA A Dl) H') xs (gaveD i g f)
theorem lcI_turn {g : Nat → Bool} {f : Nat → D} {H1 H' H2 : Hp} {Dl : Addr} {i : Nat} {σ2 : L2.St} (p : LcI A g f H1 Dl i H') (s2 : Same H' H2) (hi : i < 1000) (hc : Evl.EvT tt σ2 H2 (g i)) (he : g i = true → EvQ (plusA A Dl) te σ2 H2 (f i)) :
    tt σ2 H2 fun b H3 => if b = true then te σ2 H3 fun y H4 => ∃ acc, H4 Dl = some (.lst acc) ∧ acc.length < sizeLine ∧ LcI A g f H1 Dl (i + 1) (upd H4 Dl (.lst (acc ++ [y]))) else LcI A g f H1 Dl (i + 1) H3 := by
  obtain ⟨p1, p2, xs, p3, p4⟩ := p
  refine hc H2 (Same.refl _) _ fun H3 e3 => ?_
  have s3 := Same.trans s2 e3
  cases hg : g i with
  | false =>
    refine iteF ?_
    refine ⟨p1, Same.trans p2 s3, xs, s3 _ _ p3, ?_⟩
    rw [gaveD_no hg]
    exact p4.same (mask_same s3)
  | true =>
    refine iteT ?_
    refine he hg H3 e3 _ fun v H4 e4 hv => ?_
    have s4 := Same.trans s3 e4
    have pl := p4.length
    have gl := gaveD_len (n := i) (g := g) (f := f)
    refine ⟨xs, s4 _ _ p3, Evl.sz_lt (by omega), p1, Evl.Ex.mut (Same.trans p2 s4) p1, xs ++ [v], upd_same, ?_⟩
    rw [gaveD_yes hg]
    exact ((p4.same (mask_same s4)).append (.cons hv .nil)).same mask_updP
/-- a comprehension over any walk that leaves the heap, its target a name -/
theorem eq_lcW {wi : TI} {J : It} {n : Nat} {G : Hp → Prop} {Y : Nat → Hp → V → Hp → Prop} (w : Walk J n G Y) {j : Nat} {vs : List Nat} (g : Nat → Bool) (f : Nat → D) (t : Tr A H) (hn : n ≤ 1000)
    (hw : ∀ x, wipe ((wipe σ vs).set j (some x)) vs = wipe σ vs) (hwi : ∀ H1, Same H H1 → ∀ R : It → Hp → Prop, (∀ H2, Same H1 H2 → R J H2) → wi σ H1 R) (hG : ∀ H1, Same H H1 → G H1) (hY : ∀ i H1 x H2, Y i H1 x H2 → H2 = H1)
    (hc : ∀ (i : Nat) (x : V) H1, Same H H1 → i < n → Y i H1 x H1 → Evl.EvT tt ((wipe σ vs).set j (some x)) H1 (g i))
    (he : ∀ (i : Nat) (x : V) A' H1, Same H H1 → Tr A' H1 → i < n → Y i H1 x H1 → g i = true → EvQ A' te ((wipe σ vs).set j (some x)) H1 (f i)) : EvQ A (tLc wi (gName j) tt te vs) σ H (.lst (gaveD n g f)) := fun H0 e Q q => hwi H0 e _ fun H1 e1 Dl hD =>
  lc_it w (Qd := fun H' => Q (.ref Dl) H') (LcI A g f H1 Dl) ⟨hD, Evl.Ex.new hD, [], upd_same, .nil⟩ (fun i H' _ p => hG H' (Same.trans (Same.trans e e1) p.2.1)) (fun i x H' H2 hi p y => by
      have e2 := hY i H' x H2 y
      subst e2
      have eH := Same.trans (Same.trans e e1) p.2.1
      have tp : Tr (plusA A Dl) H2 := by
        obtain ⟨_, _, xs, h3, _⟩ := p
        exact (t.same eH).plus h3
      exact ⟨hw x, lcI_turn p (Same.refl _) (by omega) (hc i x H2 eH hi y) fun hg => he i x _ H2 eH tp hi y hg⟩) (fun H' p => by
      obtain ⟨p1, p2, xs, p3, p4⟩ := p
      have a3 : A Dl = false := (t.same (Same.trans e e1)).fresh p1
      exact q _ H' (Same.trans e1 p2) (.lst (by rw [mask_at a3]; exact p3) (p4.same mask_less)))
theorem walk_zipM {a b : Addr} {xs ys : List V} {n : Nat} (hn : n = min xs.length ys.length) : Walk (ItzM K a b) n (fun H => SqT K H a xs ∧ SqL K H b ys) (YPair (fun i => xs[i]?) (fun i => ys[i]?)) where
  goes := fun i _ hi h => ⟨xs, ys, xs[i]'(by omega), ys[i]'(by omega), h.1, h.2, List.getElem?_eq_getElem _, List.getElem?_eq_getElem _⟩
  stops := fun _ h => ⟨xs, ys, h.1, h.2, by omega⟩
  yields := fun i H x H' _ h ⟨T, x', y', e1, e2, e3, e4, e5⟩ => ⟨T, x', y', e1, e2, e3, e4 _ h.1, e5 _ h.2⟩
/-- a comprehension over pairs made on the way, its targets two names -/
theorem eq_lcP {wi : TI} {J : It} {n : Nat} {G : Hp → Prop} {fx fy : Nat → Option V} (w : Walk J n G (YPair fx fy)) {j j2 : Nat} {vs : List Nat} (g : Nat → Bool) (f : Nat → D) (t : Tr A H) (hn : n ≤ 1000)
    (hw : ∀ x y, wipe (((wipe σ vs).set j (some x)).set j2 (some y)) vs = wipe σ vs) (hwi : ∀ H1, Same H H1 → ∀ R : It → Hp → Prop, (∀ H2, Same H1 H2 → R J H2) → wi σ H1 R) (hG : ∀ H1, Same H H1 → G H1)
    (hc : ∀ (i : Nat) (x y : V) H1, Same H H1 → i < n → fx i = some x → fy i = some y → Evl.EvT tt (((wipe σ vs).set j (some x)).set j2 (some y)) H1 (g i))
    (he : ∀ (i : Nat) (x y : V) A' H1, Same H H1 → Tr A' H1 → i < n → fx i = some x → fy i = some y → g i = true → EvQ A' te (((wipe σ vs).set j (some x)).set j2 (some y)) H1 (f i)) :
    EvQ A (tLc wi (gTup K 2 (gCons (gName j) (gCons (gName j2) gNil))) tt te vs) σ H (.lst (gaveD n g f)) := fun H0 e Q q => hwi H0 e _ fun H1 e1 Dl hD =>
  lc_it w (Qd := fun H' => Q (.ref Dl) H') (LcI A g f H1 Dl) ⟨hD, Evl.Ex.new hD, [], upd_same, .nil⟩ (fun i H' _ p => hG H' (Same.trans (Same.trans e e1) p.2.1)) (fun i x H' H2 hi p y => by
      obtain ⟨T, u1, u2, rfl, hT, rfl, h1, h2⟩ := y
      have sT : Same H' (upd H' T (.tup [u1, u2])) := Evl.Ex.new hT
      have eH := Same.trans (Same.trans (Same.trans e e1) p.2.1) sT
      have tp : Tr (plusA A Dl) (upd H' T (.tup [u1, u2])) := by
        obtain ⟨_, _, xs, h3, _⟩ := p
        exact (t.same eH).plus (sT _ _ h3)
      exact ⟨T, [u1, u2], rfl, Evl.st_of upd_same, rfl, u1, [u2], rfl, u2, [], rfl, rfl, hw u1 u2, lcI_turn p sT (by omega) (hc i u1 u2 _ eH hi h1 h2) fun hg => he i u1 u2 _ _ eH tp hi h1 h2 hg⟩) (fun H' p => by
      obtain ⟨p1, p2, xs, p3, p4⟩ := p
      have a3 : A Dl = false := (t.same (Same.trans e e1)).fresh p1
      exact q _ H' (Same.trans e1 p2) (.lst (by rw [mask_at a3]; exact p3) (p4.same mask_less)))
/-- (*xs, y) -/
theorem eqa_star {as : List D} (ha : EvQ B te σ H (.tup as)) (f : as.all D.flat = true) (hr : EvQA A tr σ H ds) : EvQA A (StX.tStar K te tr) σ H (as ++ ds) := fun H1 e _ q =>
  ha H1 e _ fun v H2 e2 hv => by
    obtain ⟨a, xs, rfl, hx, hl⟩ := hv.tup_inv
    exact ⟨a, xs, rfl, .inl (Evl.st_of (mask_some hx).1), hr H2 (Same.trans e e2) _ fun vs H3 e3 hvs => q _ H3 (Same.trans e2 e3) ((hl.flat_any f).append hvs)⟩
/-- a def that makes new data of what it is given -/
def spR (R : List D → D → Prop) : Sp := fun vs H Q _ => ∃ A ds d, Tr A H ∧ DqAll H vs ds ∧ R ds d ∧ ∀ v H', Same H H' → Dq (mask A H') v d → Q v H'
theorem eq_callR {R : List D → D → Prop} {E : XK} (t : Tr A H) (ha : EvQA B tas σ H ds) (r : R ds d) : EvQ A (tCall (spR R) [] E tas) σ H d := fun H1 e Q q =>
  ha H1 e _ fun vs H2 e2 hv => ⟨A, ds, d, t.same (Same.trans e e2), by rw [List.append_nil]; exact hv.same mask_un, r, fun v H3 e3 hd => q v H3 (Same.trans e2 e3) hd⟩
/-- {x: .. for x in t}, t a tuple of different texts -/
theorem eq_dcT {a : Addr} {tl : TE} {names : List Str} {j : Nat} {vs : List Nat} (f : Str → D) (t : Tr A H) (h : Evl.Ev tl σ H (.ref a)) (hx : SqT K H a (names.map V.str)) (hl : ∀ x ∈ names, x.length ≤ 1000) (hn : names.length ≤ 1000) (nd : names.Nodup)
    (hw : ∀ x, wipe ((wipe σ vs).set j (some x)) vs = wipe σ vs) (hk : ∀ x H1, Same H H1 → Evl.Ev tk ((wipe σ vs).set j (some (.str x))) H1 (.str x))
    (he : ∀ (x : Str) A' H1, Same H H1 → Tr A' H1 → x ∈ names → EvQ A' te ((wipe σ vs).set j (some (.str x))) H1 (f x)) : EvQ A (tDc (iTup K tl) (gName j) tYes tk te vs) σ H (.dic (names.map fun x => (.inr x, f x))) := fun H0 e Q q => h H0 e _ fun H1 e1 => ⟨a, rfl, ⟨_, Evl.ex_t (Same.trans e e1) hx⟩, fun Dl hD =>
  dc_tup (K := K) (a := a) (xs := names.map V.str) (Qd := fun H' => Q (.ref Dl) H') (fun i H' => H1 Dl = none ∧ Same H1 H' ∧ ∃ kvs, H' Dl = some (.dK kvs) ∧ DqKv (mask (plusA A Dl) H') kvs ((names.take i).map fun x => (.inr x, f x)) ∧ kvs.map (·.1) = (names.take i).map Sum.inr)
    ⟨hD, Evl.Ex.new hD, [], upd_same, by rw [List.take_zero]; exact .nil, by rw [List.take_zero]; rfl⟩ (fun i H' _ p => Evl.ex_t (Same.trans (Same.trans e e1) p.2.1) hx) (fun i y H' hi p => by
      rw [List.getElem?_map] at hi
      cases hh : names[i]? with
      | none => rw [hh] at hi; cases hi
      | some x =>
        rw [hh] at hi
        have ey : V.str x = y := Option.some.inj hi
        subst ey
        have hil : i < names.length := (List.getElem?_eq_some_iff.mp hh).1
        have hxm : x ∈ names := List.mem_of_getElem? hh
        have eT : names.take (i + 1) = names.take i ++ [x] := by rw [List.take_add_one, hh]; rfl
        obtain ⟨p1, p2, kvs, p3, p4, p5⟩ := p
        have eH := Same.trans (Same.trans e e1) p2
        refine ⟨hw _, yesT ?_⟩
        refine hk x H' eH H' (Same.refl _) _ fun H3 e3 => ?_
        have tp : Tr (plusA A Dl) H3 := (t.same (Same.trans eH e3)).plus (e3 _ _ p3)
        refine he x _ H3 (Same.trans eH e3) tp hxm H3 (Same.refl _) _ fun v H4 e4 hv => ?_
        have s4 := Same.trans e3 e4
        have kl : kvs.length ≤ i := by
          have := p4.length
          rw [List.length_map, List.length_take] at this
          omega
        have new : valV kvs (Sum.inr x) = none := by
          cases hv2 : valV kvs (Sum.inr x : Key) with
          | none => rfl
          | some u =>
            have hm := valV_in hv2
            rw [p5] at hm
            obtain ⟨z, hz, ez⟩ := List.mem_map.mp hm
            rw [Sum.inr.inj ez] at hz
            have nd2 : (names.take (i + 1)).Nodup := nd.sublist (List.take_sublist _ _)
            rw [eT] at nd2
            exact absurd rfl ((List.nodup_append.mp nd2).2.2 x hz x List.mem_cons_self)
        refine ⟨kvs, Sum.inr x, rfl, s4 _ _ p3, Evl.sz_lt (by omega), p1, Evl.Ex.mut (Same.trans p2 s4) p1, kvs ++ [(Sum.inr x, v)], ?_, ?_, ?_⟩
        · rw [putK_new _ new]
          exact upd_same
        · rw [eT, List.map_append]
          exact ((p4.same (mask_same s4)).append (.cons (.str x (hl x hxm)) hv .nil)).same mask_updP
        · rw [eT, List.map_append, List.map_append, p5]
          rfl) (fun H' p => by
      obtain ⟨p1, p2, kvs, p3, p4, p5⟩ := p
      rw [List.length_map] at p4 p5
      rw [List.take_of_length_le (Nat.le_refl _)] at p4 p5
      have a3 : A Dl = false := (t.same (Same.trans e e1)).fresh p1
      exact q _ H' (Same.trans e1 p2) (.dic (by rw [mask_at a3]; exact p3) (by rw [p5]; exact List.pairwise_map.mpr (nd.imp fun h e => h (Sum.inr.inj e))) (p4.same mask_less)))⟩
theorem s_fldQ {D0 : Ends} {a C dx : Addr} {fs : List (Str × V)} {f : Str} (hv : EvQ A ta σ H d) (ha : Evl.Ev tb σ H (.ref a)) (ho : H a = some (.ins C dx fs)) (cl : Cls K C) (nf : NoAttr K C f) (hl : fs.length < 1000)
    (k : ∀ v H1, Same H H1 → Dq (mask A H1) v d → D0.nx σ (upd H1 a (.ins C dx (putF f v fs)))) : sFld K tb ta f D0 σ H :=
  hv H (Same.refl H) _ fun v H1 e1 h1 => ha H1 e1 _ fun H2 e2 => ⟨a, C, dx, fs, rfl, e2 _ _ (e1 _ _ ho), cl, nf, hl, k v H2 (Same.trans e1 e2) (h1.same (mask_same e2))⟩
theorem len_putF {f : Str} {v : V} : ∀ {fs : List (Str × V)}, (putF f v fs).length ≤ fs.length + 1
  | [] => Nat.le_refl _
  | p :: r => by
    unfold putF
    split
    · exact Nat.le_succ _
    · exact Nat.succ_le_succ len_putF
theorem look_putF {f g : Str} {v u : V} {fs : List (Str × V)} (n : ¬ g = f) (h : fs.lookup g = some u) : (putF f v fs).lookup g = some u := by rw [lookup_putF, if_neg n]; exact h
theorem look_new {f : Str} {v : V} {fs : List (Str × V)} : (putF f v fs).lookup f = some v := by rw [lookup_putF, if_pos rfl]
theorem DqKv.get' {H : Hp} : ∀ {vs : List (Key × V)} {ds : List (Key × D)} {i : Nat} {p : Key × D}, DqKv H vs ds → ds[i]? = some p → ∃ v, vs[i]? = some (p.1, v) ∧ Dq H v p.2
  | _, _, _, _, .nil, at_ => by simp at at_
  | _, _, 0, p, .cons (k := k) (v := v) _ h _, e => by simp at e; subst e; exact ⟨v, rfl, h⟩
  | _, _, i + 1, p, .cons _ _ r, e => by
    obtain ⟨v, h1, h2⟩ := DqKv.get' (i := i) (p := p) r (by simpa using e)
    exact ⟨v, by simpa using h1, h2⟩
/-- d[k] of data -/
theorem eq_dget {kds : List (Key × D)} {k : Key} (ha : EvQ B ta σ H (.dic kds)) (hb : Evl.Ev tb σ H (kV k)) (hi : (k, d) ∈ kds) : EvQ B (tDGet ta tb) σ H d := fun H1 e _ q =>
  ha H1 e _ fun v H2 e2 hv => hb H2 (Same.trans e e2) _ fun H3 e3 => by
    obtain ⟨a, kvs, rfl, hx, hn, hl⟩ := (hv.same (mask_same e3)).dic_inv
    obtain ⟨i, hlt, ei⟩ := List.getElem_of_mem hi
    obtain ⟨u, hu, hd⟩ := hl.get' (List.getElem?_eq_some_iff.mpr ⟨hlt, ei⟩)
    exact ⟨a, u, rfl, .inl ⟨kvs, k, .inl (mask_some hx).1, rfl, (val_nodup hn (k, u) (List.mem_of_getElem? hu)).symm⟩, q u H3 (Same.trans e2 e3) hd⟩
end
end HX

set_option maxRecDepth 100000
set_option maxHeartbeats 3000000
namespace K04
open PySem PySem.Spec PyProof.Rows L2 HX
abbrev sArr : Stmt := topS 20
abbrev sWay : Stmt := topS 21
theorem scArr : FnScope ["switches", "mode", "modes", "first"] ["switches", "mode"] (defScope sArr) := ⟨rfl, rfl, rfl, by decide +kernel, rfl, by decide +kernel, by decide +kernel⟩
theorem scWay : FnScope ["arrivals", "services", "told", "cost", "costs"] ["arrivals", "services"] (defScope sWay) := ⟨rfl, rfl, rfl, by decide +kernel, rfl, by decide +kernel, by decide +kernel⟩
/-! ### the mirror -/
def farD : D := .int 1000000
def arrL (sw : List (List D)) (m : Nat) : List D := (List.range 4).map fun f => if max f m < sw.length then (sw.getD f []).getD m .non else farD
def arrD (sw : List (List D)) (m : Nat) : D := .tup (arrL sw m)
def farOf : D → D
  | .non => farD
  | d => d
def toldD (l : List D) : List D := l.map farOf ++ List.replicate (4 - l.length) farD
def wayD (sw : List (List D)) (l : List D) : D := .tup ((List.range 4).map fun m => .tup (arrL sw m ++ [(toldD l).getD m .non]))
/-- a square of whole numbers, of at most four rows -/
structure Sq4 (sw : List (List D)) : Prop where
  few : sw.length ≤ 4
  row : ∀ r ∈ sw, r.length = sw.length ∧ ∀ d ∈ r, ∃ i, d = .int i
theorem arrL_flat {sw : List (List D)} {m : Nat} (h : Sq4 sw) (hm : m < 4) : (arrL sw m).all D.flat = true := by
  unfold arrL
  rw [List.all_map]
  refine List.all_eq_true.mpr fun f hf => ?_
  show D.flat (if max f m < sw.length then (sw.getD f []).getD m .non else farD) = true
  by_cases c : max f m < sw.length
  · rw [if_pos c]
    have hf' : f < sw.length := by omega
    have e : sw.getD f [] = sw[f] := by rw [List.getD_eq_getElem?_getD, List.getElem?_eq_getElem hf']; rfl
    rw [e]
    obtain ⟨h1, h2⟩ := h.row _ (List.getElem_mem hf')
    have hm' : m < sw[f].length := by omega
    have e2 : sw[f].getD m .non = sw[f][m] := by rw [List.getD_eq_getElem?_getD, List.getElem?_eq_getElem hm']; rfl
    rw [e2]
    obtain ⟨i, ei⟩ := h2 _ (List.getElem_mem hm')
    rw [ei]
    rfl
  · rw [if_neg c]
    rfl
section
variable {P : Program} {w : World} {K : PySem.W.Frag} {mg : Str → Option Value} {base : Heap}
def ArrR : List D → D → Prop := fun ds d => ∃ sw m, ds = [.lst (sw.map .lst), .int (m : Nat)] ∧ Sq4 sw ∧ m < 4 ∧ d = arrD sw m
theorem range_get {n i : Nat} {f : Nat → D} (h : i < n) : ((List.range n).map f)[i]? = some (f i) := by
  rw [List.getElem?_map, List.getElem?_range h]
  rfl
theorem gave_all {n : Nat} {f : Nat → D} : gaveD n (fun _ => true) f = (List.range n).map f := by
  unfold gaveD
  rw [List.filter_eq_self.mpr fun i _ => (rfl : (fun _ => true) i = true)]
theorem ok_arrival {f : Addr} {fd : FuncData} {k : Nat} (F : L2.Fun K "arrival" "arrival" sArr f fd) (T : Bt mg) (mx : mg "max" = none) (mM : ∃ t, mg "MOST_MODES" = some (.int 4 t)) (mF : ∃ t, mg "FAR" = some (.int 1000000 t)) : FnOk P w K mg base CX0 (k + 1) f fd ["switches", "mode"] (spR ArrR) := by
  obtain ⟨t4, mM⟩ := mM
  obtain ⟨tf, mF⟩ := mF
  refine F.ok scArr (fun vs H Q E h => ?_) (fun cdv A outer s H vs Q E hr h => ?_)
  · obtain ⟨A, ds, d, _, hd, ⟨sw, m, rfl, _⟩, _⟩ := h
    exact hd.length
  · obtain ⟨A', ds, d, tr, hd, ⟨sw, m, rfl, hsq, hm, rfl⟩, q⟩ := h
    cases hd with
    | cons h1 hd =>
      cases hd with
      | cons h2 hd =>
        cases hd
        have e2 := h2.int_inv
        subst e2
        obtain ⟨a, xs, rfl, hx, hl⟩ := h1.lst_inv
        have hlen := hl.length
        rw [List.length_map] at hlen
        refine ⟨_, pss_cons (ps_set (i := 2) scArr.nd rfl (Or.inr rfl) (pe_callB (lenK K) (by rfl) T.len PySem.boot_len (pa_cons (pv 0) pa_nil)))
          (pss_one (ps_ret (pe_callTy call_tuple_of (by rfl) T.tuple (by decide +kernel) (pa_cons (pe_lc (own := [("first", 3)]) (g := gName 3) (tt := tYes) rfl scArr.nd (pi_range1 rfl T.range (pa_cons (pe_glob (v := .int 4) rfl mM ⟨_, rfl⟩) pa_nil))
            (blkOk_by (own := [("first", 3)]) (N := ["switches", "mode", "modes", "first"]) (sc := defScope sArr) (by decide +kernel)) (fun _ _ _ _ _ => pg_name (i := 3) scArr.nd rfl (Or.inl rfl)) (fun _ _ _ _ _ => pts_nil)
            (fun _ _ _ _ _ => pe_ifExp (pt_cmpR op_lt (pe_callB (call_max2 rfl) (by rfl) mx (by decide +kernel) (pa_cons (pv 3) (pa_cons (pv 1) pa_nil))) (pv 2) (nomark _)) (pe_ix (ixL K) (pe_ix (ixL K) (pv 0) (pv 3) (fun _ _ => rfl)) (pv 1) (fun _ _ => rfl)) (pe_glob (v := .int 1000000) rfl mF ⟨_, rfl⟩))) pa_nil)))), ?_⟩
        refine Evl.s_asg (ev_lenK (Evl.ev_var rfl) (.inl (Evl.sq_of hx))) (fun H1 e1 => ?_)
        have t1 := tr.same e1
        try dsimp only [tSeq, tNext]
        refine s_retQ (A := A') (d := arrD sw m) (eq_tupL t1 (eq_is (eq_lcW (walk_range (lo := 0) (n := 4)) (fun _ => true) (fun f => if max f m < sw.length then (sw.getD f []).getD m .non else farD) t1 (by decide) (fun _ => rfl) (fun H2 e2 R r => ⟨4, rfl, by decide, by decide, r H2 (Same.refl H2)⟩) (fun _ _ => True.intro) (fun _ _ _ _ y => y.1) (fun i x H2 e2 hi y => et_yes) (fun i x A2 H2 e2 t2 hi y _ => ?_)) (congrArg D.lst gave_all))) (fun v H2 e2 hv => q v H2 (Same.trans e1 e2) hv)
        obtain ⟨_, rfl⟩ := y
        have ez0 : (0 : Int) + (i : Int) = (i : Int) := Int.zero_add _
        have em : (if (m : Int) > (0 : Int) + (i : Int) then (m : Int) else (0 : Int) + (i : Int)) = ((max i m : Nat) : Int) := by rw [ez0]; split <;> omega
        refine eq_if (b := decide (max i m < sw.length)) (Evl.et_is (Evl.et_test (Evl.ev_op (Evl.ev_max2 (Evl.ev_var rfl) (Evl.ev_var rfl)) (Evl.ev_var rfl) Evl.rv_I0)) ?_) (fun c => ?_) (fun c => ?_)
        · rw [em, hlen]
          exact decide_eq_decide.mpr (show _ ↔ _ by omega)
        · have c' := of_decide_eq_true c
          have hi' : i < sw.length := by omega
          have e3 : sw.getD i [] = sw[i] := by rw [List.getD_eq_getElem?_getD, List.getElem?_eq_getElem hi']; rfl
          obtain ⟨r1, r2⟩ := hsq.row _ (List.getElem_mem hi')
          have hm' : m < sw[i].length := by omega
          have e4 : sw[i].getD m .non = sw[i][m] := by rw [List.getD_eq_getElem?_getD, List.getElem?_eq_getElem hm']; rfl
          obtain ⟨z, ez⟩ := r2 _ (List.getElem_mem hm')
          show EvQ A2 _ _ H2 (if max i m < sw.length then (sw.getD i []).getD m .non else farD)
          rw [if_pos c', e3, e4]
          refine eq_flat (B := noA) (by rw [ez]; rfl) (eq_ixL (ds := sw[i]) (i := m) (eq_ixL (ds := sw.map .lst) (i := i) (eq_ev (Evl.ev_var rfl) (((Dq.lst hx hl).same (Same.trans e1 e2)).no)) (Evl.ev_is (Evl.ev_var rfl) (congrArg V.int ez0)) ?_) (Evl.ev_var rfl) (List.getElem?_eq_getElem hm'))
          rw [List.getElem?_map, List.getElem?_eq_getElem hi']
          rfl
        · have c' := of_decide_eq_false c
          show EvQ A2 _ _ H2 (if max i m < sw.length then (sw.getD i []).getD m .non else farD)
          rw [if_neg c']
          exact eq_int'
def WayR : List D → D → Prop := fun ds d => ∃ sw l, ds = [.tup ((List.range 4).map (arrD sw)), .lst l] ∧ Sq4 sw ∧ l.length ≤ 4 ∧ (∀ x ∈ l, x.flat = true) ∧ d = wayD sw l
theorem farOf_flat {d : D} (h : d.flat = true) : (farOf d).flat = true := by cases d <;> first | rfl | exact h
theorem toldD_flat {l : List D} (h : ∀ x ∈ l, x.flat = true) : ∀ x ∈ toldD l, x.flat = true := by
  intro x hx
  rcases List.mem_append.mp hx with m | m
  · obtain ⟨y, hy, rfl⟩ := List.mem_map.mp m
    exact farOf_flat (h y hy)
  · rw [List.eq_of_mem_replicate m]
    rfl
theorem toldD_len {l : List D} (h : l.length ≤ 4) : (toldD l).length = 4 := by
  unfold toldD
  simp only [List.length_append, List.length_map, List.length_replicate]
  omega
theorem gave_map {l : List D} {f : D → D} {n : Nat} (hn : n = l.length) : gaveD n (fun _ => true) (fun i => f (l.getD i .non)) = l.map f := by
  subst hn
  rw [gave_all]
  refine List.ext_getElem (by simp) fun i _ h2 => ?_
  have h3 : i < l.length := by simpa using h2
  simp [h3]
theorem ok_ways {f : Addr} {fd : FuncData} {k : Nat} (F : L2.Fun K "ways_of_serving" "ways_of_serving" sWay f fd) (T : Bt mg) (mz : mg "zip" = none) (mM : ∃ t, mg "MOST_MODES" = some (.int 4 t)) (mF : ∃ t, mg "FAR" = some (.int 1000000 t)) : FnOk P w K mg base CX0 (k + 1) f fd ["arrivals", "services"] (spR WayR) := by
  obtain ⟨t4, mM⟩ := mM
  obtain ⟨tf, mF⟩ := mF
  refine F.ok scWay (fun vs H Q E h => ?_) (fun cdv A outer s H vs Q E hr h => ?_)
  · obtain ⟨A, ds, d, _, hd, ⟨sw, l, rfl, _⟩, _⟩ := h
    exact hd.length
  · obtain ⟨A', ds, d, tr, hd, ⟨sw, l, rfl, hsq, hl4, hfl, rfl⟩, q⟩ := h
    cases hd with
    | cons h1 hd =>
      cases hd with
      | cons h2 hd =>
        cases hd
        obtain ⟨a, xs, rfl, hx, hla⟩ := h1.tup_inv
        obtain ⟨b, ys, rfl, hy, hlb⟩ := h2.lst_inv
        have la := hla.length
        have lb := hlb.length
        rw [List.length_map, List.length_range] at la
        refine ⟨_, pss_cons (ps_set (i := 2) scWay.nd rfl (Or.inl rfl) (pe_op op_cat (pe_lc (own := [("cost", 3)]) (g := gName 3) (tt := tYes) rfl scWay.nd (pi_list (pv 1)) (blkOk_by (own := [("cost", 3)]) (N := ["arrivals", "services", "told", "cost", "costs"]) (sc := defScope sWay) (by decide +kernel)) (fun _ _ _ _ _ => pg_name (i := 3) scWay.nd rfl (Or.inl rfl)) (fun _ _ _ _ _ => pts_nil)
              (fun _ _ _ _ _ => pe_ifExp (pt_cmpR op_isN (pv 3) pe_non (nomark _)) (pe_glob (v := .int 1000000) rfl mF ⟨_, rfl⟩) (pv 3)))
            (pe_op op_rep (pe_lst (pa_cons (pe_glob (v := .int 1000000) rfl mF ⟨_, rfl⟩) pa_nil)) (pe_op op_sub (pe_glob (v := .int 4) rfl mM ⟨_, rfl⟩) (pe_callB (lenK K) (by rfl) T.len PySem.boot_len (pa_cons (pv 1) pa_nil))))))
          (pss_one (ps_ret (pe_callTy call_tuple_of (by rfl) T.tuple (by decide +kernel) (pa_cons (pe_lc (own := [("costs", 4), ("cost", 3)]) (g := gTup K 2 (gCons (gName 4) (gCons (gName 3) gNil))) (tt := tYes) rfl scWay.nd (pi_zipM rfl mz (pa_cons (pv 0) (pa_cons (pv 2) pa_nil)))
            (blkOk_by (own := [("costs", 4), ("cost", 3)]) (N := ["arrivals", "services", "told", "cost", "costs"]) (sc := defScope sWay) (by decide +kernel)) (fun _ _ _ _ _ => pg_tupK K rfl (pgs_cons (pg_name (i := 4) scWay.nd rfl (Or.inl rfl)) (pgs_cons (pg_name (i := 3) scWay.nd rfl (Or.inl rfl)) pgs_nil))) (fun _ _ _ _ _ => pts_nil)
            (fun _ _ _ _ _ => pe_tup (pa_starK K (pv 4) (pa_cons (pv 3) pa_nil)))) pa_nil)))), ?_⟩
        refine s_asgQ (A := noA) (d := .lst (toldD l)) (eq_cat (as := l.map farOf) (bs := List.replicate (4 - l.length) farD) Tr.no (eq_is (eq_lcW (walk_list (K := K) (a := b) (xs := ys)) (fun _ => true) (fun i => farOf (l.getD i .non)) Tr.no (by omega) (fun _ => rfl) (fun H2 e2 R r => ⟨_, rfl, b, rfl, ⟨ys, Evl.sq_of (e2 _ _ hy)⟩, r H2 (Same.refl H2)⟩) (fun H2 e2 => Evl.sq_of (e2 _ _ hy)) (fun _ _ _ _ y => y.1) (fun i x H2 e2 hi y => et_yes) (fun i x A2 H2 e2 t2 hi y _ => ?_)) (congrArg D.lst (gave_map lb)))
          (eq_is (eq_rep (as := [farD]) (k := 4 - (ys.length : Int)) Tr.no (eq_lst Tr.no (eqa_cons eq_int' eqa_nil) (by decide)) (Evl.ev_op Evl.ev_c (ev_lenK (Evl.ev_var rfl) (.inl (Evl.sq_of hy))) Evl.rv_I0) (by omega) (by decide)) ?_) (by rw [List.length_map, List.length_replicate]; omega)) (fun v H1 e1 hv => ?_)
        · obtain ⟨d0, hd0, hq0⟩ := hlb.get y.2
          have eg : l.getD i .non = d0 := getD_of hd0
          show EvQ A2 _ _ H2 (farOf (l.getD i .non))
          rw [eg]
          have fl : d0.flat = true := hfl d0 (List.mem_of_getElem? hd0)
          refine eq_if (b := decide (x = .non)) (Evl.et_test (Evl.ev_op (Evl.ev_var rfl) Evl.ev_c (fun H3 _ Q3 q3 => ⟨rfl, q3 H3 (Evl.Ex.refl H3)⟩))) (fun c => ?_) (fun c => ?_)
          · have c' := of_decide_eq_true c
            subst c'
            cases hq0
            exact eq_int'
          · have c' : x ≠ .non := of_decide_eq_false c
            have ef : farOf d0 = d0 := by
              cases d0 with
              | non => exact absurd (by cases hq0; rfl) c'
              | _ => rfl
            rw [ef]
            exact eq_ev (Evl.ev_var rfl) ((hq0.flat_any fl))
        · have ek : (4 - (ys.length : Int)).toNat = 4 - l.length := by omega
          rw [ek]
          have : ∀ n : Nat, (List.replicate n [farD]).flatten = List.replicate n farD := fun n => by
            induction n with
            | zero => rfl
            | succ n ih => rw [List.replicate_succ, List.flatten_cons, ih, List.replicate_succ]; rfl
          rw [this]
        · obtain ⟨c, zs, rfl, hz, hlc⟩ := hv.un.lst_inv
          have lc := hlc.length
          rw [toldD_len hl4] at lc
          have t1 := tr.same e1
          try dsimp only [tSeq, tNext]
          refine s_retQ (A := A') (d := wayD sw l) (eq_tupL t1 (eq_is (eq_lcP (K := K) (walk_zipM (K := K) (a := a) (b := c) (xs := xs) (ys := zs) (n := 4) (by omega)) (fun _ => true) (fun m => .tup (arrL sw m ++ [(toldD l).getD m .non])) t1 (by decide) (fun _ _ => rfl) (fun H2 e2 R r => ⟨_, rfl, _, rfl, a, c, xs, zs, rfl, Evl.st_of (e2 _ _ (e1 _ _ hx)), Evl.sq_of (e2 _ _ hz), r H2 (Same.refl H2)⟩) (fun H2 e2 => ⟨Evl.st_of (e2 _ _ (e1 _ _ hx)), Evl.sq_of (e2 _ _ hz)⟩) (fun i x y H2 e2 hi h1 h2 => et_yes) (fun i x y A2 H2 e2 t2 hi h1 h2 _ => ?_)) (congrArg D.lst gave_all))) (fun v H2 e2 hv => q v H2 (Same.trans e1 e2) hv)
          obtain ⟨d1, hd1, hq1⟩ := hla.get h1
          obtain ⟨d2, hd2, hq2⟩ := hlc.get h2
          rw [range_get hi] at hd1
          have ed1 := Option.some.inj hd1
          subst ed1
          have eg : (toldD l).getD i .non = d2 := getD_of hd2
          have f2 : d2.flat = true := toldD_flat hfl d2 (List.mem_of_getElem? hd2)
          show EvQ A2 _ _ H2 (.tup (arrL sw i ++ [(toldD l).getD i .non]))
          rw [eg]
          exact eq_tup t2 (eqa_star (B := noA) (as := arrL sw i) (eq_ev (Evl.ev_var rfl) ((hq1.same (Same.trans e1 e2)).no)) (arrL_flat hsq hi) (eqa_cons (eq_ev (Evl.ev_var rfl) (hq2.flat_any f2)) eqa_nil)) (by rw [List.length_append]; show (arrL sw i).length + 1 ≤ 1000; unfold arrL; rw [List.length_map, List.length_range]; decide)
end
end K04

set_option maxRecDepth 100000
set_option maxHeartbeats 3000000
namespace K04
open PySem PySem.Spec PyProof.Rows L2 HX
abbrev sSys : Stmt := topS 15
abbrev sInit : Stmt := inClass sSys 0
theorem scInit : FnScope ["self", "switches", "kinds", "costs", "name", "mode"] ["self", "switches", "kinds"] (defScope sInit) := ⟨rfl, rfl, rfl, by decide +kernel, rfl, by decide +kernel, by decide +kernel⟩
def kindsD (ks : List (Str × List D)) : D := .dic (ks.map fun p => (.inr p.1, .lst p.2))
/-- right switches, right kinds by ascending name -/
structure Right (sw : List (List D)) (ks : List (Str × List D)) : Prop where
  s : areSw (.lst (sw.map .lst)) = true
  k : areKi sw.length (kindsD ks) = true
  up : sortedS (ks.map (·.1)) = true
  nd : (ks.map (·.1)).Nodup
/-- a System's attributes -/
structure SFl (fs : List (Str × V)) (n : Nat) (pt ps pk pa pw : Addr) : Prop where
  m : fs.lookup ("modes" : Str) = some (.int (n : Nat))
  n : fs.lookup ("names" : Str) = some (.ref pt)
  s : fs.lookup ("_switches" : Str) = some (.ref ps)
  k : fs.lookup ("_kinds" : Str) = some (.ref pk)
  a : fs.lookup ("_arrivals" : Str) = some (.ref pa)
  w : fs.lookup ("_ways" : Str) = some (.ref pw)
  no : ∀ g : Str, ¬ g = "modes" → ¬ g = "names" → ¬ g = "_switches" → ¬ g = "_kinds" → ¬ g = "_arrivals" → ¬ g = "_ways" → fs.lookup g = none
/-- a System stands at x: its switches, its kinds by ascending name -/
structure SysAt (C : Addr) (H : Hp) (x : Addr) (sw : List (List D)) (ks : List (Str × List D)) : Prop where
  rt : Right sw ks
  ex : ∃ (dx pt ps pk pa pw : Addr) (fs : List (Str × V)), H x = some (.ins C dx fs) ∧ SFl fs sw.length pt ps pk pa pw ∧
    Dq H (.ref pt) (.tup (ks.map fun p => .str p.1)) ∧ Dq H (.ref ps) (.lst (sw.map .lst)) ∧ Dq H (.ref pk) (kindsD ks) ∧ Dq H (.ref pa) (.tup ((List.range 4).map (arrD sw))) ∧ Dq H (.ref pw) (.dic (ks.map fun p => (.inr p.1, wayD sw p.2)))
theorem SysAt.same {C : Addr} {H H' : Hp} {x : Addr} {sw : List (List D)} {ks : List (Str × List D)} (s : Same H H') (h : SysAt C H x sw ks) : SysAt C H' x sw ks := by
  obtain ⟨dx, pt, ps, pk, pa, pw, fs, h0, l, d1, d2, d3, d4, d5⟩ := h.ex
  exact ⟨h.rt, dx, pt, ps, pk, pa, pw, fs, s _ _ h0, l, d1.same s, d2.same s, d3.same s, d4.same s, d5.same s⟩
/-- the same, its lists and dicts laid open -/
theorem SysAt.old {C : Addr} {H : Hp} {x : Addr} {sw : List (List D)} {ks : List (Str × List D)} (h : SysAt C H x sw ks) : ∃ (dx pt ps pk pa pw : Addr) (rs : List V) (kvs : List (Key × V)) (fs : List (Str × V)), SFl fs sw.length pt ps pk pa pw ∧ H x = some (.ins C dx fs) ∧ H pt = some (.tup (ks.map fun p => .str p.1)) ∧
    H ps = some (.lst rs) ∧ DqAll H rs (sw.map .lst) ∧ H pk = some (.dK kvs) ∧ (kvs.map (·.1)).Nodup ∧ DqKv H kvs (ks.map fun p => (.inr p.1, .lst p.2)) := by
  obtain ⟨dx, pt, ps, pk, pa, pw, fs, h0, l, d1, d2, d3, _⟩ := h.ex
  obtain ⟨_, ts, e, ht, hlt⟩ := d1.tup_inv
  cases e
  obtain ⟨_, rs, e, hs, hls⟩ := d2.lst_inv
  cases e
  obtain ⟨_, kvs, e, hk, nd, hlk⟩ := d3.dic_inv
  cases e
  have et : ts = ks.map fun p => V.str p.1 := by
    have : ∀ {us : List V} {qs : List (Str × List D)}, DqAll H us (qs.map fun p => .str p.1) → us = qs.map fun p => V.str p.1 := fun {us qs} => by
      induction qs generalizing us with
      | nil => intro h; cases h; rfl
      | cons q r ih => intro h; cases h with
        | cons h1 h2 => rw [h1.str_inv, ih h2]; rfl
    exact this hlt
  exact ⟨dx, pt, ps, pk, pa, pw, rs, kvs, fs, l, h0, by rw [ht, et], hs, hls, hk, nd, hlk⟩
/-- the kinds of a dict, by ascending name -/
structure KindsOf (l : List (Key × D)) (ks : List (Str × List D)) : Prop where
  perm : ((ks.map (·.1)).map Sum.inr : List Key).Perm (l.map (·.1))
  up : sortedS (ks.map (·.1)) = true
  at_ : ∀ p ∈ ks, ((.inr p.1, .lst p.2) : Key × D) ∈ l
/-- an own error class, as the top has it -/
structure ErrC (K : PySem.W.Frag) (mg : Str → Option Value) (x : Str) (C : Addr) : Prop where
  g : mg x = some (.ref C)
  ex : PySem.W.excIn K C [.type "ValueError", .type "Exception", .type "BaseException", .type "object"] "ValueError.__new__" = true
  kp : PySem.W.keepIn K (Value.ref C) = true
  b : PySem.W.subIn K (.ref C) (.type "BaseException") = some true
  t : PySem.W.typeIn K (.ref C) = some (.type "type")
structure SysC (K : PySem.W.Frag) (mg : Str → Option Value) (C : Addr) : Prop where
  cl : Cls K C
  nM : NoAttr K C "modes"
  nN : NoAttr K C "names"
  nS : NoAttr K C "_switches"
  nK : NoAttr K C "_kinds"
  nA : NoAttr K C "_arrivals"
  nW : NoAttr K C "_ways"
  g : mg "System" = some (.ref C)
theorem areSw_lst {d : D} (h : areSw d = true) : ∃ l, d = .lst l ∧ l.length ≤ 4 ∧ ∀ e ∈ l, ∃ li, e = .lst li := by
  cases d with
  | lst l =>
    refine ⟨l, rfl, ?_, fun e he => ?_⟩
    · exact of_decide_eq_true (Bool.and_eq_true_iff.mp (Bool.and_eq_true_iff.mp h).1).2
    · obtain ⟨i, hi, rfl⟩ := List.getElem_of_mem he
      have h2 := List.all_eq_true.mp (Bool.and_eq_true_iff.mp h).2 i (List.mem_range.mpr hi)
      rw [getD_of (List.getElem?_eq_getElem hi)] at h2
      cases hh : l[i] with
      | lst li => exact ⟨li, rfl⟩
      | _ => rw [hh] at h2; cases h2
  | _ => cases h
theorem isIntD_int {lo hi : Int} {d : D} (h : isIntD lo hi d = true) : ∃ i, d = .int i ∧ lo ≤ i ∧ i ≤ hi := by
  cases d with
  | int i =>
    have h' := Bool.and_eq_true_iff.mp h
    exact ⟨i, rfl, of_decide_eq_true h'.1, of_decide_eq_true h'.2⟩
  | _ => cases h
theorem areSw_sq {sw : List (List D)} (h : areSw (.lst (sw.map .lst)) = true) : Sq4 sw := by
  have h' := Bool.and_eq_true_iff.mp h
  have len : (sw.map D.lst).length = sw.length := List.length_map _
  refine ⟨by have := of_decide_eq_true (Bool.and_eq_true_iff.mp h'.1).2; omega, fun r hr => ?_⟩
  obtain ⟨i, hi, rfl⟩ := List.getElem_of_mem hr
  have h2 := List.all_eq_true.mp h'.2 i (List.mem_range.mpr (by rw [len]; exact hi))
  have e : (sw.map D.lst).getD i .non = .lst sw[i] := getD_of (by rw [List.getElem?_map, List.getElem?_eq_getElem hi]; rfl)
  rw [e, len] at h2
  have h3 := Bool.and_eq_true_iff.mp h2
  refine ⟨of_decide_eq_true h3.1, fun d hd => ?_⟩
  obtain ⟨z, ez, _⟩ := isIntD_int (List.all_eq_true.mp (Bool.and_eq_true_iff.mp h3.2).1 d hd)
  exact ⟨z, ez⟩
theorem areKi_dic {n : Nat} {d : D} (h : areKi n d = true) : ∃ l, d = .dic l ∧ l.length ≤ 4 ∧ (∀ p ∈ l, ∃ x, p.1 = .inr x ∧ isNameS x = true) ∧ ∀ p ∈ l, ∃ li, p.2 = .lst li ∧ areSe n (.lst li) = true := by
  cases d with
  | dic l =>
    refine ⟨l, rfl, ?_, fun e he => ?_, fun e he => ?_⟩
    · exact of_decide_eq_true (Bool.and_eq_true_iff.mp (Bool.and_eq_true_iff.mp h).1).2
    · have h2 := (Bool.and_eq_true_iff.mp (List.all_eq_true.mp (Bool.and_eq_true_iff.mp h).2 e he)).1
      cases hh : e.1 with
      | inr x => rw [hh] at h2; exact ⟨x, rfl, h2⟩
      | inl i => rw [hh] at h2; cases h2
    · have h2 := (Bool.and_eq_true_iff.mp (List.all_eq_true.mp (Bool.and_eq_true_iff.mp h).2 e he)).2
      cases hh : e.2 with
      | lst li => rw [hh] at h2; exact ⟨li, rfl, h2⟩
      | _ => rw [hh] at h2; cases h2
  | _ => cases h
theorem areSe_facts {n : Nat} {l : List D} (h : areSe n (.lst l) = true) : l.length = n ∧ (∀ d ∈ l, d.flat = true) ∧ ∃ d ∈ l, notNon d = true := by
  have h1 := Bool.and_eq_true_iff.mp h
  have h2 := Bool.and_eq_true_iff.mp h1.2
  refine ⟨of_decide_eq_true h1.1, fun d hd => ?_, ?_⟩
  · by_cases c : notNon d = true
    · obtain ⟨z, rfl, _⟩ := isIntD_int (List.all_eq_true.mp h2.2 d (List.mem_filter.mpr ⟨hd, c⟩))
      rfl
    · cases d with
      | non => rfl
      | _ => exact absurd rfl c
  · have hp := of_decide_eq_true h2.1
    obtain ⟨d, hd⟩ := List.exists_mem_of_length_pos hp
    exact ⟨d, (List.mem_filter.mp hd).1, (List.mem_filter.mp hd).2⟩
theorem inr_keys : ∀ {ks : List Key}, (∀ k ∈ ks, ∃ x, k = Sum.inr x) → ∃ xs : List Str, ks = xs.map Sum.inr
  | [], _ => ⟨[], rfl⟩
  | k :: ks, h => by
    obtain ⟨x, e⟩ := h k List.mem_cons_self
    obtain ⟨xs, e2⟩ := inr_keys (ks := ks) fun k hk => h k (List.mem_cons_of_mem _ hk)
    exact ⟨x :: xs, by rw [e, e2]; rfl⟩
/-- what stands at a name -/
def itemsOf (l : List (Key × D)) (y : Str) : List D := match l.find? fun t => decide (t.1 = Sum.inr y) with
  | some (_, .lst li) => li
  | _ => []
theorem itemsOf_mem {l : List (Key × D)} {y : Str} (hl : ∀ p ∈ l, ∃ li, p.2 = .lst li) (h : (Sum.inr y : Key) ∈ l.map (·.1)) : ((.inr y, .lst (itemsOf l y)) : Key × D) ∈ l := by
  obtain ⟨t, ht, e⟩ := List.mem_map.mp h
  unfold itemsOf
  cases hf : l.find? fun t => decide (t.1 = (Sum.inr y : Key)) with
  | none =>
    have z := List.find?_eq_none.mp hf t ht
    rw [decide_eq_true e] at z
    exact absurd rfl z
  | some u =>
    obtain ⟨k, d⟩ := u
    have hm : (k, d) ∈ l := List.mem_of_find?_eq_some hf
    have z0 : decide (k = Sum.inr y) = true := by
      have z := List.find?_some hf
      exact z
    have z' : k = Sum.inr y := of_decide_eq_true z0
    obtain ⟨li, e2⟩ := hl _ hm
    have e2' : d = .lst li := e2
    subst z' e2'
    exact hm
def spInit (C CS CK : Addr) : Sp := fun vs H Q E => ∃ (A : Addr → Bool) (x dx : Addr) (v1 v2 : V) (d1 d2 : D), vs = [.ref x, v1, v2] ∧ H x = some (.ins C dx []) ∧ Tr A H ∧ A x = false ∧ Dq H v1 d1 ∧ Dq H v2 d2 ∧ kvOk d2 = true ∧
  (areSw d1 = false → ∀ H', Same H H' → E (.ref CS) none H') ∧
  (∀ l, d1 = .lst l → areSw d1 = true → areKi l.length d2 = false → ∀ H', Same H H' → E (.ref CK) none H') ∧
  (∀ sw l ks H', d1 = .lst (sw.map .lst) → d2 = .dic l → areSw d1 = true → areKi sw.length d2 = true → KindsOf l ks → Bx x H H' → SysAt C (mask A H') x sw ks → Q .non H')
end K04

set_option maxRecDepth 100000
set_option maxHeartbeats 3000000
namespace K04
open PySem PySem.Spec PyProof.Rows L2 HX
/-- all that System's defs call, as the top has it -/
structure Sy (K : PySem.W.Frag) (mg : Str → Option Value) (fI fN fW fF fK fS fA fY : Addr) (dI dN dW dF dK dS dA dY : FuncData) : Prop where
  cI : CdW K mg fI dI
  cN : Cd K mg "is_name" sIsName ["value"] fN dN
  cW : Cd K mg "are_switches" sSw ["value"] fW dW
  cF : Cd K mg "are_switches_from" sSwF ["value", "mode", "modes"] fF dF
  cK : Cd K mg "are_kinds" sKi ["value", "modes"] fK dK
  cS : Cd K mg "are_services" sSe ["value", "modes"] fS dS
  cA : Cd K mg "arrival" sArr ["switches", "mode"] fA dA
  cY : Cd K mg "ways_of_serving" sWay ["arrivals", "services"] fY dY
  mC : ∃ t, mg "MOST_COST" = some (.int 4 t)
  mM : ∃ t, mg "MOST_MODES" = some (.int 4 t)
  mK : ∃ t, mg "MOST_KINDS" = some (.int 4 t)
  mF : ∃ t, mg "FAR" = some (.int 1000000 t)
  tup : mg "tuple" = none
  mx : mg "max" = none
  mz : mg "zip" = none
theorem n12 : ¬ (("modes" : Str) = "names") := by decide +kernel
theorem n13 : ¬ (("modes" : Str) = "_switches") := by decide +kernel
theorem n14 : ¬ (("modes" : Str) = "_kinds") := by decide +kernel
theorem n15 : ¬ (("modes" : Str) = "_arrivals") := by decide +kernel
theorem n16 : ¬ (("modes" : Str) = "_ways") := by decide +kernel
theorem n23 : ¬ (("names" : Str) = "_switches") := by decide +kernel
theorem n24 : ¬ (("names" : Str) = "_kinds") := by decide +kernel
theorem n25 : ¬ (("names" : Str) = "_arrivals") := by decide +kernel
theorem n26 : ¬ (("names" : Str) = "_ways") := by decide +kernel
theorem n34 : ¬ (("_switches" : Str) = "_kinds") := by decide +kernel
theorem n35 : ¬ (("_switches" : Str) = "_arrivals") := by decide +kernel
theorem n36 : ¬ (("_switches" : Str) = "_ways") := by decide +kernel
theorem n45 : ¬ (("_kinds" : Str) = "_arrivals") := by decide +kernel
theorem n46 : ¬ (("_kinds" : Str) = "_ways") := by decide +kernel
theorem n56 : ¬ (("_arrivals" : Str) = "_ways") := by decide +kernel
theorem isNameS_len {x : Str} (h : isNameS x = true) : x.length ≤ 8 := of_decide_eq_true (Bool.and_eq_true_iff.mp (Bool.and_eq_true_iff.mp h).1).2
section
variable {P : Program} {w : World} {K : PySem.W.Frag} {mg : Str → Option Value} {base : Heap}
theorem lists_are : ∀ {l : List D}, (∀ e ∈ l, ∃ li, e = .lst li) → ∃ sw : List (List D), l = sw.map .lst
  | [], _ => ⟨[], rfl⟩
  | d :: r, h => by
    obtain ⟨li, e⟩ := h d List.mem_cons_self
    obtain ⟨sw, e2⟩ := lists_are (l := r) fun d hd => h d (List.mem_cons_of_mem _ hd)
    exact ⟨li :: sw, by rw [e, e2]; rfl⟩
theorem strq_of {H : Hp} : ∀ {zs : List Str}, (∀ y ∈ zs, y.length ≤ 1000) → DqAll H (zs.map V.str) (zs.map D.str)
  | [], _ => .nil
  | y :: r, h => .cons (.str y (h y List.mem_cons_self)) (strq_of fun z hz => h z (List.mem_cons_of_mem _ hz))
theorem strq_inv {H : Hp} : ∀ {qs : List Str} {us : List V}, DqAll H us (qs.map .str) → us = qs.map V.str
  | [], _, .nil => rfl
  | q :: r, _, .cons h1 h2 => by rw [h1.str_inv, strq_inv h2]; rfl
/-- one store to a field of x: what is apart from x stays -/
theorem put_at {A : Addr → Bool} {H : Hp} {x : Addr} {o : HO} {v : V} {d : D} (h : Dq (mask (plusA A x) H) v d) : Dq (mask (plusA A x) (upd H x o)) v d := h.same mask_updP
theorem ok_init {f C CS CK fI fN fW fF fK fS fA fY : Addr} {fd dI dN dW dF dK dS dA dY : FuncData} {k : Nat} (F : L2.Fun K "__init__" "System.__init__" sInit f fd) (T : Bt mg) (S : Sy K mg fI fN fW fF fK fS fA fY dI dN dW dF dK dS dA dY) (c : SysC K mg C) (eS : ErrC K mg "BadSwitches" CS) (eK : ErrC K mg "BadKinds" CK) :
    FnOk P w K mg base (L2.CX P w) (k + 5) f fd ["self", "switches", "kinds"] (spInit C CS CK) := by
  have GW : FnOk P w K mg base CX0 (k + 4) fW dW ["value"] spSw := ok_sw S.cW.F T S.cI S.cF S.mC S.mM
  have GK : FnOk P w K mg base CX0 (k + 4) fK dK ["value", "modes"] spKi := ok_ki S.cK.F T S.cI S.cN S.cS S.mC S.mK
  have GA : FnOk P w K mg base CX0 (k + 4) fA dA ["switches", "mode"] (spR ArrR) := ok_arrival (k := k + 3) S.cA.F T S.mx S.mM S.mF
  have GY : FnOk P w K mg base CX0 (k + 4) fY dY ["arrivals", "services"] (spR WayR) := ok_ways (k := k + 3) S.cY.F T S.mz S.mM S.mF
  obtain ⟨t4, mM⟩ := S.mM
  refine F.okX scInit (fun vs H Q E h => ?_) (fun cdv Ar outer s H vs Q E hr h => ?_)
  · obtain ⟨A, x, dx, v1, v2, d1, d2, rfl, _⟩ := h
    rfl
  · obtain ⟨A, x, dx, v1, v2, d1, d2, rfl, hx, tr, ax, hd1, hd2, ho2, kS, kK, kR⟩ := h
    have hu := hu_of hr
    refine ⟨_, pss_cons (ps_if (pt_not (pt_val (pe_call GW hr (by rfl) S.cW.g S.cW.F.kp S.cW.b .nil pass0 (pa_cons (pv 1) pa_nil)))) (pss_one (ps_raise rfl (takes_of rfl rfl rfl rfl) (pmk_own0 PySem.F.excBase_ValueError eS.ex eS.g eS.kp (raises_own eS.b eS.t) (by rfl)))) pss_nil)
      (pss_cons (ps_if (pt_not (pt_val (pe_call GK hr (by rfl) S.cK.g S.cK.F.kp S.cK.b .nil pass0 (pa_cons (pv 2) (pa_cons (pe_callB (lenK K) (by rfl) T.len PySem.boot_len (pa_cons (pv 1) pa_nil)) pa_nil))))) (pss_one (ps_raise rfl (takes_of rfl rfl rfl rfl) (pmk_own0 PySem.F.excBase_ValueError eK.ex eK.g eK.kp (raises_own eK.b eK.t) (by rfl)))) pss_nil)
      (pss_cons (ps_fld (pv 0) (pe_callB (lenK K) (by rfl) T.len PySem.boot_len (pa_cons (pv 1) pa_nil)) rfl)
      (pss_cons (ps_fld (pv 0) (pe_callTy call_tuple_of (by rfl) S.tup (by decide +kernel) (pa_cons (pe_callB (call_sortedD rfl) (by rfl) T.sorted (by decide +kernel) (pa_cons (pv 2) pa_nil)) pa_nil)) rfl)
      (pss_cons (ps_fld (pv 0) (pe_lc (own := [("costs", 3)]) (g := gName 3) (tt := tYes) rfl scInit.nd (pi_list (pv 1)) (blkOk_by (own := [("costs", 3)]) (N := ["self", "switches", "kinds", "costs", "name", "mode"]) (sc := defScope sInit) (by decide +kernel)) (fun _ _ _ _ _ => pg_name (i := 3) scInit.nd rfl (Or.inl rfl)) (fun _ _ _ _ _ => pts_nil)
          (fun _ _ _ _ _ => pe_callTy (listOfK K) (by rfl) T.list (by decide +kernel) (pa_cons (pv 3) pa_nil))) rfl)
      (pss_cons (ps_fld (pv 0) (pe_dc (own := [("name", 4)]) (g := gName 4) (tt := tYes) rfl scInit.nd (pi_tup (pe_fld (pv 0) rfl)) (blkOk_by (own := [("name", 4)]) (N := ["self", "switches", "kinds", "costs", "name", "mode"]) (sc := defScope sInit) (by decide +kernel)) (fun _ _ _ _ _ => pg_name (i := 4) scInit.nd rfl (Or.inl rfl)) (fun _ _ _ _ _ => pts_nil)
          (fun _ _ _ _ _ => pv 4) (fun _ _ _ _ _ => pe_callTy (listOfK K) (by rfl) T.list (by decide +kernel) (pa_cons (pe_dget hu (pv 2) (pv 4) (fun _ _ => rfl)) pa_nil))) rfl)
      (pss_cons (ps_fld (pv 0) (pe_callTy call_tuple_of (by rfl) S.tup (by decide +kernel) (pa_cons (pe_lc (own := [("mode", 5)]) (g := gName 5) (tt := tYes) rfl scInit.nd (pi_range1 rfl T.range (pa_cons (pe_glob (v := .int 4) rfl mM ⟨_, rfl⟩) pa_nil)) (blkOk_by (own := [("mode", 5)]) (N := ["self", "switches", "kinds", "costs", "name", "mode"]) (sc := defScope sInit) (by decide +kernel)) (fun _ _ _ _ _ => pg_name (i := 5) scInit.nd rfl (Or.inl rfl)) (fun _ _ _ _ _ => pts_nil)
          (fun _ _ _ _ _ => pe_call GA hr (by rfl) S.cA.g S.cA.F.kp S.cA.b .nil pass0 (pa_cons (pe_fldK K (pv 0) rfl) (pa_cons (pv 5) pa_nil)))) pa_nil)) rfl)
      (pss_one (ps_fld (pv 0) (pe_dc (own := [("name", 4)]) (g := gName 4) (tt := tYes) rfl scInit.nd (pi_tup (pe_fld (pv 0) rfl)) (blkOk_by (own := [("name", 4)]) (N := ["self", "switches", "kinds", "costs", "name", "mode"]) (sc := defScope sInit) (by decide +kernel)) (fun _ _ _ _ _ => pg_name (i := 4) scInit.nd rfl (Or.inl rfl)) (fun _ _ _ _ _ => pts_nil)
          (fun _ _ _ _ _ => pv 4) (fun _ _ _ _ _ => pe_call GY hr (by rfl) S.cY.g S.cY.F.kp S.cY.b .nil pass0 (pa_cons (pe_fldK K (pv 0) rfl) (pa_cons (pe_dget hu (pe_fldK K (pv 0) rfl) (pv 4) (fun _ _ => rfl)) pa_nil)))) rfl)))))))), ?_⟩
    -- if not are_switches(switches): raise
    refine Evl.s_if (b := !areSw d1) (Evl.et_not (Evl.et_B (Evl.ev_call (vs := [v1]) (Evl.ea_cons (Evl.ev_var rfl) Evl.ea_nil) (fun H1 e1 Q1 q1 E1 => ⟨v1, d1, rfl, hd1.same e1, q1⟩)))) (fun c0 H1 e1 => ?_) (fun c0 H1 e1 => ?_)
    · exact kS ((Bool.not_eq_true' _).mp c0) H1 e1
    have cW : areSw d1 = true := (Bool.not_eq_false' _).mp c0
    obtain ⟨l1, rfl, hl4, hl1⟩ := areSw_lst cW
    obtain ⟨a1, xs1, rfl, ha1, hq1⟩ := hd1.lst_inv
    have hlen1 := hq1.length
    dsimp only [tNext]
    -- if not are_kinds(..): raise
    refine Evl.s_if (b := !areKi l1.length d2) (Evl.et_not (Evl.et_B (Evl.ev_call (vs := [v2, .int (xs1.length : Int)]) (Evl.ea_cons (Evl.ev_var rfl) (Evl.ea_cons (ev_lenK (Evl.ev_var rfl) (.inl (Evl.sq_of (e1 _ _ ha1)))) Evl.ea_nil)) (fun H2 e2 Q2 q2 E2 => ⟨v2, d2, l1.length, by rw [hlen1]; rfl, hd2.same (e1.trans e2), ho2, by omega, q2⟩)))) (fun c2 H2 e2 => ?_) (fun c2 H2 e2 => ?_)
    · exact kK l1 rfl cW ((Bool.not_eq_true' _).mp c2) H2 (Same.trans e1 e2)
    have cK : areKi l1.length d2 = true := (Bool.not_eq_false' _).mp c2
    obtain ⟨l2, rfl, hl24, hkey, hlst⟩ := areKi_dic cK
    obtain ⟨a2, kvs, rfl, ha2, hnd, hq2⟩ := hd2.dic_inv
    have hlst' : ∀ p ∈ l2, ∃ li, p.2 = .lst li := fun p hp => (hlst p hp).imp fun li h => h.1
    have ekeys : kvs.map (·.1) = l2.map (·.1) := by
      refine List.ext_getElem (by rw [List.length_map, List.length_map]; exact hq2.length) fun i h1 h2 => ?_
      rw [List.length_map] at h1 h2
      obtain ⟨d, hd, _⟩ := hq2.get (List.getElem?_eq_getElem h1)
      rw [List.getElem_map, List.getElem_map]
      rw [List.getElem?_eq_getElem h2] at hd
      rw [Option.some.inj hd]
    obtain ⟨ksn, eks⟩ := inr_keys (ks := l2.map (·.1)) fun k hk => by
      obtain ⟨p, hp, e⟩ := List.mem_map.mp hk
      obtain ⟨z, hz, _⟩ := hkey p hp
      exact ⟨z, by rw [← e, hz]⟩
    have hkl : ksn.length ≤ 4 := by
      have := congrArg List.length eks
      rw [List.length_map, List.length_map] at this
      omega
    have ksnd : ksn.Nodup := by
      have z : (ksn.map (Sum.inr : Str → Key)).Nodup := by rw [← eks, ← ekeys]; exact hnd
      exact (List.pairwise_map.mp z).imp fun h e => h (by rw [e])
    have knm : ∀ y ∈ ksn, isNameS y = true := fun y hy => by
      have : (Sum.inr y : Key) ∈ l2.map (·.1) := by rw [eks]; exact List.mem_map.mpr ⟨y, hy, rfl⟩
      obtain ⟨p, hp, e⟩ := List.mem_map.mp this
      obtain ⟨z, hz, nz⟩ := hkey p hp
      rw [e] at hz
      rw [Sum.inr.inj hz]
      exact nz
    obtain ⟨sw, esw⟩ := lists_are hl1
    subst esw
    have swl : (sw.map D.lst).length = sw.length := List.length_map _
    have sq := areSw_sq cW
    dsimp only [tNext]
    have nx : NoD H x := NoD.ins hx
    have ex2 : Same H H2 := Same.trans e1 e2
    have trx : Tr (plusA A x) H := tr.plus hx
    -- self.modes
    refine s_fld (y := .int (xs1.length : Int)) (ev_lenK (Evl.ev_var rfl) (.inl (Evl.sq_of (ex2 _ _ ha1)))) (Evl.ev_var rfl) (ex2 _ _ hx) c.cl c.nM (by decide) (fun H3 e3 => ?_)
    generalize ef1 : putF "modes" (.int (xs1.length : Int)) [] = fs1
    have b4 : Bx x H (upd H3 x (.ins C dx fs1)) := (Bx.of (Same.trans ex2 e3)).trans Bx.upd
    have t4' : Tr (plusA A x) (upd H3 x (.ins C dx fs1)) := fun b hb z => by
      by_cases e : b = x
      · rw [e, upd_same] at z; cases z
      · rw [upd_ne e] at z; exact (trx.same (Same.trans ex2 e3)) b hb z
    have x4 : upd H3 x (.ins C dx fs1) x = some (.ins C dx fs1) := upd_same
    generalize upd H3 x (.ins C dx fs1) = H4 at b4 x4 t4' ⊢
    have nxa1 : a1 ≠ x := fun z => nx.1 _ (by rw [← z]; exact ha1)
    have nxa2 : a2 ≠ x := fun z => nx.2.2 _ (by rw [← z]; exact .inl ha2)
    have ln1 : fs1.length ≤ 1 := by rw [← ef1]; exact len_putF
    -- self.names
    refine ⟨_, rfl, a2, kvs, ksn, rfl, .inl (b4 _ _ nxa2 ha2), ekeys.trans eks, by omega, fun ys p hperm hsort np => ⟨p, ys.map V.str, rfl, .inl ⟨Evl.sq_of upd_same, fun pt npt => ?_⟩⟩⟩
    have s5 : Same H4 (upd (upd H4 p (.lst (ys.map V.str))) pt (.tup (ys.map V.str))) := Same.trans (Evl.Ex.new np) (Evl.Ex.new npt)
    have p5 : upd (upd H4 p (.lst (ys.map V.str))) pt (.tup (ys.map V.str)) pt = some (.tup (ys.map V.str)) := upd_same
    generalize upd (upd H4 p (.lst (ys.map V.str))) pt (.tup (ys.map V.str)) = H5 at s5 p5 ⊢
    have np4 : H4 pt = none := Evl.fresh_back (Evl.Ex.new np) npt
    have ysnm : ∀ y ∈ ys, isNameS y = true := fun y hy => knm y (hperm.mem_iff.mp hy)
    have yslen : ∀ y ∈ ys, y.length ≤ 1000 := fun y hy => Nat.le_trans (isNameS_len (ysnm y hy)) (by decide)
    have ysnd : ys.Nodup := hperm.nodup_iff.mpr ksnd
    have ysl : ys.length ≤ 4 := by rw [hperm.length_eq]; exact hkl
    have ysmem : ∀ y ∈ ys, ((.inr y, .lst (itemsOf l2 y)) : Key × D) ∈ l2 := fun y hy => itemsOf_mem hlst' (by rw [eks]; exact List.mem_map.mpr ⟨y, hperm.mem_iff.mp hy, rfl⟩)
    have t5 : Tr (plusA A x) H5 := t4'.same s5
    have a5 : plusA A x pt = false := t4'.fresh np4
    have dn5 : Dq (mask (plusA A x) H5) (.ref pt) (.tup (ys.map .str)) := .tup (by rw [mask_at a5]; exact p5) (strq_of yslen)
    refine ⟨_, rfl, x, C, dx, fs1, rfl, s5 _ _ x4, c.cl, c.nN, by omega, ?_⟩
    generalize ef2 : putF "names" (.ref pt) fs1 = fs2
    have b6 : Bx x H (upd H5 x (.ins C dx fs2)) := (b4.trans (Bx.of s5)).trans Bx.upd
    have x6 : upd H5 x (.ins C dx fs2) x = some (.ins C dx fs2) := upd_same
    have dn6 := put_at (o := .ins C dx fs2) dn5
    have t6 : Tr (plusA A x) (upd H5 x (.ins C dx fs2)) := fun b hb z => by
      by_cases e : b = x
      · rw [e, upd_same] at z; cases z
      · rw [upd_ne e] at z; exact t5 b hb z
    generalize upd H5 x (.ins C dx fs2) = H6 at b6 x6 dn6 t6 ⊢
    have ln2 : fs2.length ≤ 2 := by
      have := len_putF (f := "names") (v := .ref pt) (fs := fs1)
      rw [ef2] at this
      omega
    -- self._switches
    dsimp only [tSeq]
    refine s_fldQ (A := plusA A x) (d := .lst (sw.map .lst)) (eq_is (eq_lcW (walk_list (K := K) (a := a1) (xs := xs1)) (fun _ => true) (fun i => (sw.map D.lst).getD i .non) t6 (by omega) (fun _ => rfl) (fun H7 e7 R r => ⟨_, rfl, a1, rfl, ⟨xs1, Evl.sq_of (e7 _ _ (b6 _ _ nxa1 ha1))⟩, r H7 (Same.refl H7)⟩) (fun H7 e7 => Evl.sq_of (e7 _ _ (b6 _ _ nxa1 ha1))) (fun _ _ _ _ y => y.1) (fun i y H7 e7 hi h => et_yes) (fun i y A7 H7 e7 t7 hi h _ => ?_)) (congrArg D.lst ((gave_map (f := id) hlen1).trans (List.map_id _)))) (Evl.ev_var rfl) x6 c.cl c.nS (by omega) (fun ps H7 e7 hps => ?_)
    · obtain ⟨d0, hd0, hq0⟩ := hq1.get h.2
      have eg : (sw.map D.lst).getD i .non = d0 := getD_of hd0
      rw [eg]
      rw [List.getElem?_map] at hd0
      cases hs : sw[i]? with
      | none => rw [hs] at hd0; cases hd0
      | some r =>
        rw [hs] at hd0
        have er : D.lst r = d0 := Option.some.inj hd0
        subst er
        exact eq_listL (B := noA) t7 (eq_ev (Evl.ev_var rfl) (((hq0.but nx b6).same e7).no)) (List.all_eq_true.mpr fun d hd => by
          obtain ⟨z, ez⟩ := (sq.row r (List.mem_of_getElem? hs)).2 d hd
          rw [ez]
          rfl)
    obtain ⟨ps, rfl⟩ : ∃ p, ps = .ref p := by obtain ⟨a, _, e, _⟩ := hps.lst_inv; exact ⟨a, e⟩
    generalize ef3 : putF "_switches" (.ref ps) fs2 = fs3
    have b8 : Bx x H (upd H7 x (.ins C dx fs3)) := (b6.trans (Bx.of e7)).trans Bx.upd
    have x8 : upd H7 x (.ins C dx fs3) x = some (.ins C dx fs3) := upd_same
    have dn8 := put_at (o := .ins C dx fs3) (dn6.same (mask_same e7))
    have ds8 := put_at (o := .ins C dx fs3) hps
    have t8 : Tr (plusA A x) (upd H7 x (.ins C dx fs3)) := fun b hb z => by
      by_cases e : b = x
      · rw [e, upd_same] at z; cases z
      · rw [upd_ne e] at z; exact (t6.same e7) b hb z
    generalize upd H7 x (.ins C dx fs3) = H8 at b8 x8 dn8 ds8 t8 ⊢
    have ln3 : fs3.length ≤ 3 := by
      have := len_putF (f := "_switches") (v := .ref ps) (fs := fs2)
      rw [ef3] at this
      omega
    have look2 : fs2.lookup ("names" : Str) = some (.ref pt) := by rw [← ef2]; exact look_new
    have look3 : fs3.lookup ("names" : Str) = some (.ref pt) := by rw [← ef3]; exact look_putF n23 look2
    have names_at : ∀ {H0 : Hp}, Dq (mask (plusA A x) H0) (.ref pt) (.tup (ys.map .str)) → SqT K H0 pt (ys.map V.str) := fun {H0} h => by
      obtain ⟨a, zs, e, hz, hl⟩ := h.tup_inv
      cases e
      have ez : zs = ys.map V.str := strq_inv hl
      rw [← ez]
      exact Evl.st_of (mask_some hz).1
    -- self._kinds
    dsimp only [tSeq]
    refine s_fldQ (A := plusA A x) (d := .dic (ys.map fun y => (.inr y, .lst (itemsOf l2 y)))) (eq_dcT (a := pt) (names := ys) (fun y => .lst (itemsOf l2 y)) t8 (ev_fld (v := .ref pt) (Evl.ev_var rfl) x8 c.cl c.nN look3) (names_at dn8) yslen (by omega) ysnd (fun _ => rfl) (fun y H9 e9 => Evl.ev_var rfl) (fun y A9 H9 e9 t9 hy => ?_)) (Evl.ev_var rfl) x8 c.cl c.nK (by omega) (fun pk H9 e9 hpk => ?_)
    · have hmy := ysmem y hy
      refine eq_listL (B := noA) t9 (eq_dget (kds := l2) (k := .inr y) (eq_ev (Evl.ev_var rfl) (((Dq.dic ha2 hnd hq2).but nx b8 |>.same e9).no)) (Evl.ev_var rfl) hmy) (List.all_eq_true.mpr fun d hd => ?_)
      obtain ⟨li, e, ok⟩ := hlst _ hmy
      have e' : itemsOf l2 y = li := D.lst.inj e
      rw [e'] at hd
      exact (areSe_facts ok).2.1 d hd
    obtain ⟨pk, rfl⟩ : ∃ p, pk = .ref p := by obtain ⟨a, _, e, _⟩ := hpk.dic_inv; exact ⟨a, e⟩
    generalize ef4 : putF "_kinds" (.ref pk) fs3 = fs4
    have b10 : Bx x H (upd H9 x (.ins C dx fs4)) := (b8.trans (Bx.of e9)).trans Bx.upd
    have x10 : upd H9 x (.ins C dx fs4) x = some (.ins C dx fs4) := upd_same
    have dn10 := put_at (o := .ins C dx fs4) (dn8.same (mask_same e9))
    have ds10 := put_at (o := .ins C dx fs4) (ds8.same (mask_same e9))
    have dk10 := put_at (o := .ins C dx fs4) hpk
    have t10 : Tr (plusA A x) (upd H9 x (.ins C dx fs4)) := fun b hb z => by
      by_cases e : b = x
      · rw [e, upd_same] at z; cases z
      · rw [upd_ne e] at z; exact (t8.same e9) b hb z
    generalize upd H9 x (.ins C dx fs4) = H10 at b10 x10 dn10 ds10 dk10 t10 ⊢
    have ln4 : fs4.length ≤ 4 := by
      have := len_putF (f := "_kinds") (v := .ref pk) (fs := fs3)
      rw [ef4] at this
      omega
    have lookS : fs4.lookup ("_switches" : Str) = some (.ref ps) := by rw [← ef4]; exact look_putF n34 (by rw [← ef3]; exact look_new)
    -- self._arrivals
    dsimp only [tSeq]
    refine s_fldQ (A := plusA A x) (d := .tup ((List.range 4).map (arrD sw))) (eq_tupL t10 (eq_is (eq_lcW (walk_range (lo := 0) (n := 4)) (fun _ => true) (arrD sw) t10 (by decide) (fun _ => rfl) (fun H11 e11 R r => ⟨4, rfl, by decide, by decide, r H11 (Same.refl H11)⟩) (fun _ _ => True.intro) (fun _ _ _ _ y => y.1) (fun i y H11 e11 hi h => et_yes) (fun i y A11 H11 e11 t11 hi h _ => ?_)) (congrArg D.lst gave_all))) (Evl.ev_var rfl) x10 c.cl c.nA (by omega) (fun pa H11 e11 hpa => ?_)
    · obtain ⟨_, rfl⟩ := h
      refine eq_callR t11 (ds := [.lst (sw.map .lst), .int (i : Nat)]) (eqa_cons (A := noA) (eq_ev (ev_fld (v := .ref ps) (Evl.ev_var rfl) (e11 _ _ x10) c.cl c.nS lookS) ((ds10.un.same e11).no)) (eqa_cons (eq_ev (Evl.ev_var rfl) ?_) eqa_nil)) ⟨sw, i, rfl, sq, hi, rfl⟩
      have ez0 : (0 : Int) + (i : Int) = (i : Int) := Int.zero_add _
      show Dq _ (.int (0 + (i : Int))) (.int (i : Nat))
      rw [ez0]
      exact .int _
    obtain ⟨pa, rfl⟩ : ∃ p, pa = .ref p := by obtain ⟨a, _, e, _⟩ := hpa.tup_inv; exact ⟨a, e⟩
    generalize ef5 : putF "_arrivals" (.ref pa) fs4 = fs5
    have b12 : Bx x H (upd H11 x (.ins C dx fs5)) := (b10.trans (Bx.of e11)).trans Bx.upd
    have x12 : upd H11 x (.ins C dx fs5) x = some (.ins C dx fs5) := upd_same
    have dn12 := put_at (o := .ins C dx fs5) (dn10.same (mask_same e11))
    have ds12 := put_at (o := .ins C dx fs5) (ds10.same (mask_same e11))
    have dk12 := put_at (o := .ins C dx fs5) (dk10.same (mask_same e11))
    have da12 := put_at (o := .ins C dx fs5) hpa
    have t12 : Tr (plusA A x) (upd H11 x (.ins C dx fs5)) := fun b hb z => by
      by_cases e : b = x
      · rw [e, upd_same] at z; cases z
      · rw [upd_ne e] at z; exact (t10.same e11) b hb z
    generalize upd H11 x (.ins C dx fs5) = H12 at b12 x12 dn12 ds12 dk12 da12 t12 ⊢
    have ln5 : fs5.length ≤ 5 := by
      have := len_putF (f := "_arrivals") (v := .ref pa) (fs := fs4)
      rw [ef5] at this
      omega
    have lookA : fs5.lookup ("_arrivals" : Str) = some (.ref pa) := by rw [← ef5]; exact look_new
    have lookK : fs5.lookup ("_kinds" : Str) = some (.ref pk) := by rw [← ef5]; exact look_putF n45 (by rw [← ef4]; exact look_new)
    have lookN : fs5.lookup ("names" : Str) = some (.ref pt) := by rw [← ef5]; exact look_putF n25 (by rw [← ef4]; exact look_putF n24 look3)
    -- self._ways
    dsimp only [tSeq]
    refine s_fldQ (A := plusA A x) (d := .dic (ys.map fun y => (.inr y, wayD sw (itemsOf l2 y)))) (eq_dcT (a := pt) (names := ys) (fun y => wayD sw (itemsOf l2 y)) t12 (ev_fld (v := .ref pt) (Evl.ev_var rfl) x12 c.cl c.nN lookN) (names_at dn12) yslen (by omega) ysnd (fun _ => rfl) (fun y H13 e13 => Evl.ev_var rfl) (fun y A13 H13 e13 t13 hy => ?_)) (Evl.ev_var rfl) x12 c.cl c.nW (by omega) (fun pw H13 e13 hpw => ?_)
    · have hmy := ysmem y hy
      obtain ⟨li, e, ok⟩ := hlst _ hmy
      have e' : itemsOf l2 y = li := D.lst.inj e
      have fa := areSe_facts ok
      rw [swl] at fa
      have few := sq.few
      refine eq_callR t13 (ds := [.tup ((List.range 4).map (arrD sw)), .lst (itemsOf l2 y)]) (eqa_cons (A := noA) (eq_ev (ev_fld (v := .ref pa) (Evl.ev_var rfl) (e13 _ _ x12) c.cl c.nA lookA) ((da12.un.same e13).no)) (eqa_cons (eq_dget (kds := ys.map fun y => (.inr y, .lst (itemsOf l2 y))) (k := .inr y) (eq_ev (ev_fld (v := .ref pk) (Evl.ev_var rfl) (e13 _ _ x12) c.cl c.nK lookK) ((dk12.un.same e13).no)) (Evl.ev_var rfl) (List.mem_map.mpr ⟨y, hy, rfl⟩)) eqa_nil)) ⟨sw, itemsOf l2 y, rfl, sq, by rw [e', fa.1]; exact few, by rw [e']; exact fa.2.1, rfl⟩
    obtain ⟨pw, rfl⟩ : ∃ p, pw = .ref p := by obtain ⟨a, _, e, _⟩ := hpw.dic_inv; exact ⟨a, e⟩
    generalize ef6 : putF "_ways" (.ref pw) fs5 = fs6
    have b14 : Bx x H (upd H13 x (.ins C dx fs6)) := (b12.trans (Bx.of e13)).trans Bx.upd
    have x14 : upd H13 x (.ins C dx fs6) x = some (.ins C dx fs6) := upd_same
    have dn14 := (put_at (o := .ins C dx fs6) (dn12.same (mask_same e13))).same mask_less
    have ds14 := (put_at (o := .ins C dx fs6) (ds12.same (mask_same e13))).same mask_less
    have dk14 := (put_at (o := .ins C dx fs6) (dk12.same (mask_same e13))).same mask_less
    have da14 := (put_at (o := .ins C dx fs6) (da12.same (mask_same e13))).same mask_less
    have dw14 := (put_at (o := .ins C dx fs6) hpw).same mask_less
    show Q .non (upd H13 x (.ins C dx fs6))
    generalize upd H13 x (.ins C dx fs6) = H14 at b14 x14 dn14 ds14 dk14 da14 dw14 ⊢
    have lk : ∀ {g : Str} {u : V}, ¬ g = "_ways" → fs5.lookup g = some u → fs6.lookup g = some u := fun {g u} n h => by rw [← ef6]; exact look_putF n h
    have lS5 : fs5.lookup ("_switches" : Str) = some (.ref ps) := by rw [← ef5]; exact look_putF n35 lookS
    have lM5 : fs5.lookup ("modes" : Str) = some (.int (sw.length : Nat)) := by
      rw [← ef5]
      refine look_putF n15 ?_
      rw [← ef4]
      refine look_putF n14 ?_
      rw [← ef3]
      refine look_putF n13 ?_
      rw [← ef2]
      refine look_putF n12 ?_
      rw [← ef1, hlen1, swl]
      exact look_new
    have eks2 : (ys.map fun y => (y, itemsOf l2 y)).map (·.1) = ys := by
      rw [List.map_map]
      exact List.map_id' ys
    have up2 : sortedS ((ys.map fun y => (y, itemsOf l2 y)).map (·.1)) = true := by rw [eks2]; exact hsort
    have ki : areKi sw.length (kindsD (ys.map fun y => (y, itemsOf l2 y))) = true := by
      have z := Bool.and_eq_true_iff.mp cK
      refine Bool.and_eq_true_iff.mpr ⟨?_, List.all_eq_true.mpr fun p hp => ?_⟩
      · have z1 := Bool.and_eq_true_iff.mp z.1
        have : ys.length = l2.length := by
          have z3 := congrArg List.length eks
          rw [List.length_map, List.length_map] at z3
          rw [hperm.length_eq, z3]
        rw [List.length_map, List.length_map, this]
        exact z.1
      · obtain ⟨q, hq, rfl⟩ := List.mem_map.mp hp
        obtain ⟨y, hy, rfl⟩ := List.mem_map.mp hq
        have z2 := List.all_eq_true.mp z.2 _ (ysmem y hy)
        rw [swl] at z2
        exact z2
    refine kR sw l2 (ys.map fun y => (y, itemsOf l2 y)) H14 rfl rfl cW (by rw [← swl]; exact cK) ⟨?_, up2, ?_⟩ b14 ⟨⟨cW, ki, up2, by rw [eks2]; exact ysnd⟩, dx, pt, ps, pk, pa, pw, fs6, ?_, ⟨lk n16 lM5, lk n26 lookN, lk n36 lS5, lk n46 lookK, lk n56 lookA, by rw [← ef6]; exact look_new, ?_⟩, ?_, ds14, ?_, da14, ?_⟩
    · rw [eks2, eks]
      exact hperm.map _
    · intro p hp
      obtain ⟨y, hy, rfl⟩ := List.mem_map.mp hp
      exact ysmem y hy
    · rw [mask_at ax]
      exact x14
    · intro g m1 m2 m3 m4 m5 m6
      rw [← ef6, lookup_putF, if_neg m6, ← ef5, lookup_putF, if_neg m5, ← ef4, lookup_putF, if_neg m4, ← ef3, lookup_putF, if_neg m3, ← ef2, lookup_putF, if_neg m2, ← ef1, lookup_putF, if_neg m1]
      rfl
    · rw [List.map_map]
      exact dn14
    · show Dq _ _ (.dic ((ys.map fun y => (y, itemsOf l2 y)).map fun p => (.inr p.1, .lst p.2)))
      rw [List.map_map]
      exact dk14
    · rw [List.map_map]
      exact dw14
end
end K04

set_option maxRecDepth 100000
set_option maxHeartbeats 3000000
namespace HX
open PySem PySem.Spec PyProof.Rows L2
mutual
def D.py : D → PyData
  | .non => .none
  | .bl b => .bool b
  | .int i => .int i
  | .str x => .str x
  | .lst l => .list (pyAll l)
  | .tup l => .tuple (pyAll l)
  | .dic _ => .none
def pyAll : List D → List PyData
  | [] => []
  | d :: r => d.py :: pyAll r
end
section
variable {K : PySem.W.Frag} {H : Hp}
mutual
theorem Dq.dp : ∀ {v : V} {d : D}, d.nd = true → Dq H v d → Dp K H v d.py
  | _, _, _, .non => by rw [D.py]; exact .non
  | _, _, _, .bl b => by rw [D.py]; exact .bl b
  | _, _, _, .int i => by rw [D.py]; exact .int i
  | _, _, _, .str x _ => by rw [D.py]; exact .str x
  | _, _, n, .lst h r => by
    rw [D.nd] at n
    rw [D.py]
    exact .lst (Evl.sq_of h) (DqAll.dp n r)
  | _, _, n, .tup h r => by
    rw [D.nd] at n
    rw [D.py]
    exact .tup (Evl.st_of h) (DqAll.dp n r)
  | _, _, n, .dic _ _ _ => by
    rw [D.nd] at n
    cases n
theorem DqAll.dp : ∀ {vs : List V} {ds : List D}, ndAll ds = true → DqAll H vs ds → DpAll K H vs (pyAll ds)
  | _, _, _, .nil => by rw [pyAll]; exact .nil
  | _, _, n, .cons h r => by
    rw [ndAll, Bool.and_eq_true_iff] at n
    rw [pyAll]
    exact .cons (Dq.dp n.1 h) (DqAll.dp n.2 r)
end
end
theorem Dq.flat_eq {H : Hp} {v u : V} {d : D} (f : d.flat = true) (h : Dq H v d) (h' : Dq H u d) : v = u ∧ flatB v = true := by
  cases h with
  | non => cases h'; exact ⟨rfl, rfl⟩
  | bl b => cases h'; exact ⟨rfl, rfl⟩
  | int i => cases h'; exact ⟨rfl, rfl⟩
  | str x _ => cases h'; exact ⟨rfl, rfl⟩
  | _ => cases f
theorem DqAll.flat_eqV {K : PySem.W.Frag} {H : Hp} {n : Nat} : ∀ {vs us : List V} {ds : List D}, ds.all D.flat = true → DqAll H vs ds → DqAll H us ds → Paired (EqV K H (n + 1)) vs us
  | _, _, _, _, .nil, .nil => .nil
  | _, _, _, f, .cons h r, .cons h' r' => by
    rw [List.all_cons, Bool.and_eq_true_iff] at f
    exact .cons (.inl (h.flat_eq f.1 h')) (DqAll.flat_eqV f.2 r r')
end HX
namespace K04
open PySem PySem.Spec PyProof.Rows L2 HX
abbrev sEq : Stmt := inClass sSys 1
abbrev sSwitch : Stmt := inClass sSys 2
abbrev sService : Stmt := inClass sSys 3
abbrev sSwitches : Stmt := inClass sSys 7
abbrev sKinds : Stmt := inClass sSys 8
theorem scEq : FnScope ["self", "other"] ["self", "other"] (defScope sEq) := ⟨rfl, rfl, rfl, by decide +kernel, rfl, by decide +kernel, by decide +kernel⟩
theorem scSwitch : FnScope ["self", "first", "second"] ["self", "first", "second"] (defScope sSwitch) := ⟨rfl, rfl, rfl, by decide +kernel, rfl, by decide +kernel, by decide +kernel⟩
theorem scService : FnScope ["self", "kind", "mode"] ["self", "kind", "mode"] (defScope sService) := ⟨rfl, rfl, rfl, by decide +kernel, rfl, by decide +kernel, by decide +kernel⟩
theorem scSwitches : FnScope ["self", "costs"] ["self"] (defScope sSwitches) := ⟨rfl, rfl, rfl, by decide +kernel, rfl, by decide +kernel, by decide +kernel⟩
theorem scKinds : FnScope ["self", "name"] ["self"] (defScope sKinds) := ⟨rfl, rfl, rfl, by decide +kernel, rfl, by decide +kernel, by decide +kernel⟩
/-- what isinstance(.., System) asks -/
structure SysI (K : PySem.W.Frag) (C : Addr) : Prop where
  ha : PySem.W.findIn K (Value.ref C) "__class__" = some (some (.builtin "object.__class__"))
  hn : PySem.W.specialIn K (Value.builtin "object.__class__") "__get__" = some (some (.builtin "getset_descriptor.__get__"))
  htk : PySem.W.takesIn K (Value.builtin "object.__class__") = some true
  hm : PySem.W.mroIn K C (Value.type "object") = some true
  kit : PySem.W.kitOne K (.ref C) (.ref C) = some true
/-- the lists behind a list of lists -/
theorem lists_of {H : Hp} : ∀ {xs : List V} {l : List D}, DqAll H xs l → (∀ d ∈ l, ∃ li, d = .lst li) →
    ∃ ts : List (Addr × List V × List D), xs = ts.map (fun t => V.ref t.1) ∧ l = ts.map (fun t => D.lst t.2.2) ∧ ∀ t ∈ ts, H t.1 = some (.lst t.2.1) ∧ DqAll H t.2.1 t.2.2
  | _, _, .nil, _ => ⟨[], rfl, rfl, fun _ h => nomatch h⟩
  | _, _, .cons (v := v) (d := d) h r, hl => by
    obtain ⟨ts, e1, e2, h3⟩ := lists_of r fun d hd => hl d (List.mem_cons_of_mem _ hd)
    obtain ⟨li, rfl⟩ := hl d List.mem_cons_self
    cases h with
    | lst h1 h2 =>
      rename_i a xs
      refine ⟨(a, xs, li) :: ts, by rw [e1]; rfl, by rw [e2]; rfl, fun t ht => ?_⟩
      rcases List.mem_cons.mp ht with rfl | ht
      · exact ⟨h1, h2⟩
      · exact h3 t ht
theorem listsKv_of {H : Hp} : ∀ {xs : List (Key × V)} {l : List (Key × D)}, DqKv H xs l → (∀ p ∈ l, ∃ li, p.2 = .lst li) →
    ∃ ts : List (Key × Addr × List V × List D), xs = ts.map (fun t => (t.1, V.ref t.2.1)) ∧ l = ts.map (fun t => (t.1, D.lst t.2.2.2)) ∧ ∀ t ∈ ts, Dq H (kV t.1) (keyD t.1) ∧ H t.2.1 = some (.lst t.2.2.1) ∧ DqAll H t.2.2.1 t.2.2.2
  | _, _, .nil, _ => ⟨[], rfl, rfl, fun _ h => nomatch h⟩
  | _, _, .cons (k := k) (v := v) (d := d) hk h r, hl => by
    obtain ⟨ts, e1, e2, h3⟩ := listsKv_of r fun p hp => hl p (List.mem_cons_of_mem _ hp)
    obtain ⟨li, e⟩ := hl _ List.mem_cons_self
    have e : d = .lst li := e
    subst e
    cases h with
    | lst h1 h2 =>
      rename_i a xs
      refine ⟨(k, a, xs, li) :: ts, by rw [e1]; rfl, by rw [e2]; rfl, fun t ht => ?_⟩
      rcases List.mem_cons.mp ht with rfl | ht
      · exact ⟨hk, h1, h2⟩
      · exact h3 t ht
section
variable {P : Program} {w : World} {K : PySem.W.Frag} {mg : Str → Option Value} {base : Heap}
def spSwitch (C : Addr) : Sp := fun vs H Q _ => ∃ (x : Addr) (sw : List (List D)) (ks : List (Str × List D)) (i j : Nat) (row : List D) (d : D), vs = [.ref x, .int (i : Nat), .int (j : Nat)] ∧ SysAt C H x sw ks ∧ sw[i]? = some row ∧ row[j]? = some d ∧ ∀ v, Dq H v d → Q v H
theorem ok_switch {f C : Addr} {fd : FuncData} {k : Nat} (F : L2.Fun K "switch" "System.switch" sSwitch f fd) (c : SysC K mg C) : FnOk P w K mg base CX0 (k + 1) f fd ["self", "first", "second"] (spSwitch C) := by
  refine F.ok scSwitch (fun vs H Q E h => ?_) (fun cdv A outer s H vs Q E hr h => ?_)
  · obtain ⟨x, sw, ks, i, j, row, d, rfl, _⟩ := h
    rfl
  · obtain ⟨x, sw, ks, i, j, row, d, rfl, hS, hi, hj, q⟩ := h
    obtain ⟨dx, pt, ps, pk, pa, pw, rs, kvs, fs, fl, h1, h2, h3, h4, h5, h6, h7⟩ := hS.old
    refine ⟨_, pss_one (ps_ret (pe_ix ix_list (pe_ix ix_list (pe_fld (pv 0) rfl) (pv 1) (fun _ _ => rfl)) (pv 2) (fun _ _ => rfl))), ?_⟩
    obtain ⟨v1, hv1, hq1⟩ := h4.get' (i := i) (d := .lst row) (by rw [List.getElem?_map, hi]; rfl)
    cases hq1 with
    | lst ha hr1 =>
    rename_i a xs
    obtain ⟨v2, hv2, hq2⟩ := hr1.get' hj
    exact ⟨_, rfl, x, C, dx, _, _, rfl, h1, c.cl, c.nS, fl.s, _, rfl, ps, rs, _, _, rfl, rfl, Evl.sq_of h3, atI_nat hv1, _, rfl, a, xs, _, _, rfl, rfl, Evl.sq_of ha, atI_nat hv2, q v2 hq2⟩
def spService (C : Addr) : Sp := fun vs H Q _ => ∃ (x : Addr) (sw : List (List D)) (ks : List (Str × List D)) (n : Str) (j : Nat) (li : List D) (d : D), vs = [.ref x, .str n, .int (j : Nat)] ∧ SysAt C H x sw ks ∧ (n, li) ∈ ks ∧ li[j]? = some d ∧ ∀ v, Dq H v d → Q v H
theorem ok_service {f C : Addr} {fd : FuncData} {k : Nat} (F : L2.Fun K "service" "System.service" sService f fd) (c : SysC K mg C) : FnOk P w K mg base CX0 (k + 1) f fd ["self", "kind", "mode"] (spService C) := by
  refine F.ok scService (fun vs H Q E h => ?_) (fun cdv A outer s H vs Q E hr h => ?_)
  · obtain ⟨x, sw, ks, n, j, li, d, rfl, _⟩ := h
    rfl
  · obtain ⟨x, sw, ks, n, j, li, d, rfl, hS, hm, hj, q⟩ := h
    have hu := hu_of hr
    obtain ⟨dx, pt, ps, pk, pa, pw, rs, kvs, fs, fl, h1, h2, h3, h4, h5, h6, h7⟩ := hS.old
    refine ⟨_, pss_one (ps_ret (pe_ix ix_list (pe_dget hu (pe_fld (pv 0) rfl) (pv 1) (fun _ _ => rfl)) (pv 2) (fun _ _ => rfl))), ?_⟩
    obtain ⟨i, hi, ei⟩ := List.getElem_of_mem hm
    have hi2 : (ks.map fun p => ((Sum.inr p.1 : Key), D.lst p.2))[i]? = some (.inr n, .lst li) := by rw [List.getElem?_map, List.getElem?_eq_getElem hi, ei]; rfl
    have hik : i < kvs.length := by rw [h7.length, List.length_map]; exact hi
    obtain ⟨d', hd', hk', hq'⟩ := h7.get (List.getElem?_eq_getElem hik)
    rw [hi2] at hd'
    have e1 : (Sum.inr n : Key) = kvs[i].1 := congrArg Prod.fst (Option.some.inj hd')
    have e2 : D.lst li = d' := congrArg Prod.snd (Option.some.inj hd')
    subst e2
    cases hv : kvs[i].2 with
    | ref a =>
      rw [hv] at hq'
      cases hq' with
      | lst ha hr1 =>
      rename_i xs
      obtain ⟨v2, hv2, hq2⟩ := hr1.get' hj
      have hval : valV kvs (Sum.inr n) = some (.ref a) := by
        have z := val_nodup h6 kvs[i] (List.getElem_mem hik)
        rw [← e1, hv] at z
        exact z
      exact ⟨_, rfl, x, C, dx, _, _, rfl, h1, c.cl, c.nK, fl.k, _, rfl, pk, .ref a, rfl, .inl ⟨kvs, Sum.inr n, .inl h5, rfl, hval.symm⟩, _, rfl, a, xs, _, _, rfl, rfl, Evl.sq_of ha, atI_nat hv2, q v2 hq2⟩
    | _ => rw [hv] at hq'; cases hq'
/-- a new list of new lists stands at p -/
structure NewLL (H H' : Hp) (p : Addr) (sw : List (List D)) : Prop where
  np : H p = none
  same : Same H H'
  ex : ∃ (ps : List Addr) (rows : List (List V)), H' p = some (.lst (ps.map V.ref)) ∧ ps.length = sw.length ∧ rows.length = sw.length ∧ (∀ (i : Nat) q row, ps[i]? = some q → rows[i]? = some row → H q = none ∧ q ≠ p ∧ H' q = some (.lst row)) ∧
    ∀ (i : Nat) row li, rows[i]? = some row → sw[i]? = some li → DqAll H row li
theorem NewLL.dq {H H' : Hp} {p : Addr} {sw : List (List D)} (n : NewLL H H' p sw) : Dq H' (.ref p) (.lst (sw.map .lst)) := by
  obtain ⟨ps, rows, h1, h2, h3, h4, h5⟩ := n.ex
  refine .lst h1 (dqAll_of (by rw [List.length_map, List.length_map, h2]) fun i v d hv hd => ?_)
  rw [List.getElem?_map] at hv hd
  have hi : i < sw.length := by
    rcases Nat.lt_or_ge i sw.length with h | h
    · exact h
    · rw [List.getElem?_eq_none h] at hd; cases hd
  have e1 : ps[i]? = some ps[i] := List.getElem?_eq_getElem (by omega)
  have e2 : rows[i]? = some rows[i] := List.getElem?_eq_getElem (by omega)
  have e3 : sw[i]? = some sw[i] := List.getElem?_eq_getElem hi
  rw [e1] at hv
  rw [e3] at hd
  have ev : V.ref ps[i] = v := Option.some.inj hv
  have ed : D.lst sw[i] = d := Option.some.inj hd
  rw [← ev, ← ed]
  exact .lst (h4 i _ _ e1 e2).2.2 ((h5 i _ _ e2 e3).same n.same)
def spSwitches (C : Addr) : Sp := fun vs H Q _ => ∃ x sw ks, vs = [.ref x] ∧ SysAt C H x sw ks ∧ sw.length ≤ 100 ∧ ∀ p H', NewLL H H' p sw → Q (.ref p) H'
theorem ok_switches {f C : Addr} {fd : FuncData} {k : Nat} (F : L2.Fun K "switches" "System.switches" sSwitches f fd) (T : Bt mg) (c : SysC K mg C) : FnOk P w K mg base CX0 (k + 1) f fd ["self"] (spSwitches C) := by
  refine F.ok scSwitches (fun vs H Q E h => ?_) (fun cdv A outer s H vs Q E hr h => ?_)
  · obtain ⟨x, sw, ks, rfl, _⟩ := h
    rfl
  · obtain ⟨x, sw, ks, rfl, hS, hl, q⟩ := h
    obtain ⟨dx, pt, ps, pk, pa, pw, rs, kvs, fs, fl, h1, h2, h3, h4, h5, h6, h7⟩ := hS.old
    have hlen := h4.length
    rw [List.length_map] at hlen
    refine ⟨_, pss_one (ps_ret (pe_lc (own := [("costs", 1)]) (g := gName 1) (tt := tYes) rfl scSwitches.nd (pi_list (pe_fld (pv 0) rfl)) (blkOk_by (own := [("costs", 1)]) (N := ["self", "costs"]) (sc := defScope sSwitches) (by decide +kernel)) (fun _ _ _ _ _ => pg_name (i := 1) scSwitches.nd rfl (Or.inl rfl)) (fun _ _ _ _ _ => pts_nil)
          (fun _ _ _ _ _ => pe_callTy (listOfK K) (by rfl) T.list (by decide +kernel) (pa_cons (pv 1) pa_nil)))), ?_⟩
    obtain ⟨ts, ex1, el1, ht1⟩ := lists_of h4 (fun d hd => by obtain ⟨li, _, e⟩ := List.mem_map.mp hd; exact ⟨li, e.symm⟩)
    have el2 : sw = ts.map fun t => t.2.2 := by
      have z : sw.map D.lst = (ts.map fun t => t.2.2).map D.lst := by rw [el1, List.map_map]; rfl
      exact (List.map_inj_right (fun a b h => D.lst.inj h)).mp z
    have lts : ts.length = sw.length := by rw [el2, List.length_map]
    refine (ell_lcW (σ := [some (.ref x), none]) (walk_list (K := K) (a := ps) (xs := rs)) (fun i => (ts.getD i (0, [], [])).2.1) (fun H7 e7 R r => (ev_fld (v := .ref ps) (Evl.ev_var rfl) h1 c.cl c.nS (fl.s)) H7 e7 _ fun H8 e8 => ⟨ps, rfl, ⟨rs, Evl.sq_of (e8 _ _ (e7 _ _ h3))⟩, r H8 e8⟩) (fun H7 e7 => Evl.sq_of (e7 _ _ h3)) (fun i H7 y H8 h => h.1) (by omega) (fun _ => rfl) (fun i y H7 e7 hi h => ?_)) H (Same.refl H) _ (fun p H7 pss nps e7 hps hpn hpq => ?_)
    · have hy : rs[i]? = some y := h.2
      rw [ex1, List.getElem?_map] at hy
      cases ht : ts[i]? with
      | none => rw [ht] at hy; cases hy
      | some t =>
        rw [ht] at hy
        have ey : V.ref t.1 = y := Option.some.inj hy
        have et : ts.getD i (0, [], []) = t := by rw [List.getD_eq_getElem?_getD, ht]; rfl
        rw [← ey, et]
        have hm := (ht1 t (List.mem_of_getElem? ht)).1
        exact Evl.el_cb (vs := [V.ref t.1]) (Evl.ea_cons (Evl.ev_var rfl) Evl.ea_nil) (fun H8 e8 Q8 q8 => ⟨t.1, t.2.1, rfl, .inl (Evl.sq_of (e8 _ _ (e7 _ _ hm))), fun l nl => q8 l _ nl (Evl.Ex.new nl) upd_same⟩)
    · refine q p H7 ⟨nps, e7, pss, ts.map fun t => t.2.1, hps, by omega, by rw [List.length_map, lts], fun i q0 row hq hrow => ?_, fun i row li hrow hli => ?_⟩
      · obtain ⟨z1, z2, z3⟩ := hpq i q0 hq
        refine ⟨z1, z2, ?_⟩
        rw [List.getElem?_map] at hrow
        cases ht : ts[i]? with
        | none => rw [ht] at hrow; cases hrow
        | some t =>
          rw [ht] at hrow
          have e : t.2.1 = row := Option.some.inj hrow
          have et : ts.getD i (0, [], []) = t := by rw [List.getD_eq_getElem?_getD, ht]; rfl
          have z4 : H7 q0 = some (.lst (ts.getD i (0, [], [])).2.1) := z3
          rw [et, e] at z4
          exact z4
      · rw [List.getElem?_map] at hrow
        rw [el2, List.getElem?_map] at hli
        cases ht : ts[i]? with
        | none => rw [ht] at hrow; cases hrow
        | some t =>
          rw [ht] at hrow hli
          rw [← Option.some.inj hrow, ← Option.some.inj hli]
          exact (ht1 t (List.mem_of_getElem? ht)).2

/-- a new dict of new lists stands at p -/
structure NewDL (H H' : Hp) (p : Addr) (ks : List (Str × List D)) : Prop where
  np : H p = none
  same : Same H H'
  nd : (ks.map (·.1)).Nodup
  ex : ∃ (ps : List Addr) (rows : List (List V)), H' p = some (.dK ((ks.map fun q => (Sum.inr q.1 : Key)).zip (ps.map V.ref))) ∧ ps.length = ks.length ∧ rows.length = ks.length ∧ (∀ (i : Nat) q row, ps[i]? = some q → rows[i]? = some row → H q = none ∧ q ≠ p ∧ H' q = some (.lst row)) ∧
    ∀ (i : Nat) row li, rows[i]? = some row → ks[i]? = some li → Dq H (.str li.1) (.str li.1) ∧ DqAll H row li.2
theorem NewDL.dq {H H' : Hp} {p : Addr} {ks : List (Str × List D)} (n : NewDL H H' p ks) : Dq H' (.ref p) (.dic (ks.map fun q => (.inr q.1, .lst q.2))) := by
  obtain ⟨ps, rows, h1, h2, h3, h4, h5⟩ := n.ex
  have ez : (ks.map fun q => ((Sum.inr q.1 : Key), D.lst q.2)) = (ks.map fun q => (Sum.inr q.1 : Key)).zip (ks.map fun q => D.lst q.2) := by
    rw [List.zip_map']
  rw [ez]
  refine .dic h1 ?_ (dqKv_of (by rw [List.length_map, List.length_map, h2]) (by rw [List.length_map, List.length_map]) (fun k hk => ?_) fun i v d hv hd => ?_)
  · rw [fst_zip, List.take_of_length_le (by rw [List.length_map, List.length_map, h2]; exact Nat.le_refl _)]
    have e : (ks.map fun q => (Sum.inr q.1 : Key)) = (ks.map (·.1)).map Sum.inr := by rw [List.map_map]; rfl
    rw [e]
    exact List.pairwise_map.mpr (n.nd.imp fun h e => h (Sum.inr.inj e))
  · obtain ⟨q, hq, rfl⟩ := List.mem_map.mp hk
    obtain ⟨i, hi, ei⟩ := List.getElem_of_mem hq
    have e2 : rows[i]? = some rows[i] := List.getElem?_eq_getElem (by omega)
    have e3 : ks[i]? = some q := by rw [List.getElem?_eq_getElem hi, ei]
    exact (h5 i _ _ e2 e3).1.same n.same
  · rw [List.getElem?_map] at hv hd
    have hi : i < ks.length := by
      rcases Nat.lt_or_ge i ks.length with h | h
      · exact h
      · rw [List.getElem?_eq_none h] at hd; cases hd
    have e1 : ps[i]? = some ps[i] := List.getElem?_eq_getElem (by omega)
    have e2 : rows[i]? = some rows[i] := List.getElem?_eq_getElem (by omega)
    have e3 : ks[i]? = some ks[i] := List.getElem?_eq_getElem hi
    rw [e1] at hv
    rw [e3] at hd
    have ev : V.ref ps[i] = v := Option.some.inj hv
    have ed : D.lst ks[i].2 = d := Option.some.inj hd
    rw [← ev, ← ed]
    exact .lst (h4 i _ _ e1 e2).2.2 ((h5 i _ _ e2 e3).2.same n.same)
def spKinds (C : Addr) : Sp := fun vs H Q _ => ∃ x sw ks, vs = [.ref x] ∧ SysAt C H x sw ks ∧ ks.length ≤ 100 ∧ ∀ p H', NewDL H H' p ks → Q (.ref p) H'
theorem ok_kinds {f C : Addr} {fd : FuncData} {k : Nat} (F : L2.Fun K "kinds" "System.kinds" sKinds f fd) (T : Bt mg) (c : SysC K mg C) : FnOk P w K mg base CX0 (k + 1) f fd ["self"] (spKinds C) := by
  refine F.ok scKinds (fun vs H Q E h => ?_) (fun cdv A outer s H vs Q E hr h => ?_)
  · obtain ⟨x, sw, ks, rfl, _⟩ := h
    rfl
  · obtain ⟨x, sw, ks, rfl, hS, hl, q⟩ := h
    have hu := hu_of hr
    obtain ⟨dx, pt, ps, pk, pa, pw, rs, kvs, fs, fl, h1, h2, h3, h4, h5, h6, h7⟩ := hS.old
    refine ⟨_, pss_one (ps_ret (pe_dc (own := [("name", 1)]) (g := gName 1) (tt := tYes) rfl scKinds.nd (pi_tup (pe_fld (pv 0) rfl)) (blkOk_by (own := [("name", 1)]) (N := ["self", "name"]) (sc := defScope sKinds) (by decide +kernel)) (fun _ _ _ _ _ => pg_name (i := 1) scKinds.nd rfl (Or.inl rfl)) (fun _ _ _ _ _ => pts_nil)
          (fun _ _ _ _ _ => pv 1) (fun _ _ _ _ _ => pe_callTy (listOfK K) (by rfl) T.list (by decide +kernel) (pa_cons (pe_dget hu (pe_fldK K (pv 0) rfl) (pv 1) (fun _ _ => rfl)) pa_nil)))), ?_⟩
    obtain ⟨ts, ex2, el2, ht2⟩ := listsKv_of h7 (fun p hp => by obtain ⟨q, _, e⟩ := List.mem_map.mp hp; exact ⟨q.2, by rw [← e]⟩)
    have ekeys : kvs.map (·.1) = (ks.map (·.1)).map Sum.inr := by
      have e1 : kvs.map (·.1) = ts.map (·.1) := by rw [ex2, List.map_map]; rfl
      have e2 : (ks.map fun p => ((Sum.inr p.1 : Key), D.lst p.2)).map (·.1) = ts.map (·.1) := by rw [el2, List.map_map]; rfl
      rw [e1, ← e2, List.map_map, List.map_map]
      rfl
    have nd : (ks.map (·.1)).Nodup := by
      have z : ((ks.map (·.1)).map (Sum.inr : Str → Key)).Nodup := by rw [← ekeys]; exact h6
      exact (List.pairwise_map.mp z).imp fun h e => h (by rw [e])
    have at_ : ∀ (i : Nat) (p : Str × List D), ks[i]? = some p → ∃ t, ts[i]? = some t ∧ t.1 = Sum.inr p.1 ∧ t.2.2.2 = p.2 := fun i p hp => by
      have z : (ks.map fun p => ((Sum.inr p.1 : Key), D.lst p.2))[i]? = some (.inr p.1, .lst p.2) := by rw [List.getElem?_map, hp]; rfl
      rw [el2, List.getElem?_map] at z
      cases ht : ts[i]? with
      | none => rw [ht] at z; cases z
      | some t =>
        rw [ht] at z
        have z' := Option.some.inj z
        exact ⟨t, rfl, congrArg Prod.fst z', D.lst.inj (congrArg Prod.snd z')⟩
    have lts : ts.length = ks.length := by
      have := congrArg List.length el2
      rw [List.length_map, List.length_map] at this
      exact this.symm
    refine (edl_dcT (σ := [some (.ref x), none]) (a := pt) (names := ks.map (·.1)) (fun i => (ts.getD i (.inl 0, 0, [], [])).2.2.1) (ev_fld (v := .ref pt) (Evl.ev_var rfl) h1 c.cl c.nN (fl.n)) (by rw [List.map_map]; exact Evl.st_of h2) (by rw [List.length_map]; omega) nd (fun _ => rfl) (fun y H9 e9 => Evl.ev_var rfl) (fun i y H9 e9 hy => ?_)) H (Same.refl H) _ (fun p H9 pks npk e9 hpk hpkn hpkq => ?_)
    · rw [List.getElem?_map] at hy
      cases hp : ks[i]? with
      | none => rw [hp] at hy; cases hy
      | some p =>
        rw [hp] at hy
        have ey : p.1 = y := Option.some.inj hy
        subst ey
        obtain ⟨t, ht, e1, e2⟩ := at_ i p hp
        have et : ts.getD i (.inl 0, 0, [], []) = t := by rw [List.getD_eq_getElem?_getD, ht]; rfl
        rw [et]
        have hmm := (ht2 t (List.mem_of_getElem? ht)).2.1
        have hk2 : H9 pk = some (.dK kvs) := e9 _ _ h5
        have hval : valV kvs (Sum.inr p.1) = some (.ref t.2.1) := val_nodup h6 (Sum.inr p.1, .ref t.2.1) (by rw [ex2]; exact List.mem_map.mpr ⟨t, List.mem_of_getElem? ht, by rw [e1]⟩)
        exact Evl.el_cb (vs := [V.ref t.2.1]) (Evl.ea_cons (ev_dget (ev_fld (v := .ref pk) (Evl.ev_var rfl) (e9 _ _ h1) c.cl c.nK (fl.k)) (Evl.ev_var rfl) (fun H10 e10 => .inl ⟨kvs, Sum.inr p.1, .inl (e10 _ _ hk2), rfl, hval.symm⟩)) Evl.ea_nil) (fun H10 e10 Q10 q10 => ⟨t.2.1, t.2.2.1, rfl, .inl (Evl.sq_of (e10 _ _ (e9 _ _ hmm))), fun l nl => q10 l _ nl (Evl.Ex.new nl) upd_same⟩)
    · refine q p H9 ⟨npk, e9, nd, pks, ts.map fun t => t.2.2.1, by rw [hpk, List.map_map]; rfl, by rw [hpkn, List.length_map, List.length_map], by rw [List.length_map, lts], fun i q0 row hq hrow => ?_, fun i row li hrow hli => ?_⟩
      · obtain ⟨z1, z2, z3⟩ := hpkq i q0 hq
        refine ⟨z1, z2, ?_⟩
        rw [List.getElem?_map] at hrow
        cases ht : ts[i]? with
        | none => rw [ht] at hrow; cases hrow
        | some t =>
          rw [ht] at hrow
          have e : t.2.2.1 = row := Option.some.inj hrow
          have et : ts.getD i (.inl 0, 0, [], []) = t := by rw [List.getD_eq_getElem?_getD, ht]; rfl
          have z4 : H9 q0 = some (.lst (ts.getD i (.inl 0, 0, [], [])).2.2.1) := z3
          rw [et, e] at z4
          exact z4
      · obtain ⟨t, ht, e1, e2⟩ := at_ i li hli
        rw [List.getElem?_map, ht] at hrow
        have e : t.2.2.1 = row := Option.some.inj hrow
        obtain ⟨w1, w2, w3⟩ := ht2 t (List.mem_of_getElem? ht)
        rw [e1] at w1
        rw [e, e2] at w3
        exact ⟨w1, w3⟩
/-- the own ==: two that differ in the switches; two that tell the same -/
def RelEq (C : Addr) (a b : Addr) (c : Bool) (H : Hp) : Prop := ∃ sw1 ks1 sw2 ks2, SysAt C H a sw1 ks1 ∧ SysAt C H b sw2 ks2 ∧ ndAll (sw1.map .lst) = true ∧ ndAll (sw2.map .lst) = true ∧ SeqAt.shaped (.list (pyAll (sw1.map .lst))) = true ∧ SeqAt.shaped (.list (pyAll (sw2.map .lst))) = true ∧
  ((PyData.eqv (.list (pyAll (sw1.map .lst))) (.list (pyAll (sw2.map .lst))) = false ∧ c = false) ∨
    (PyData.eqv (.list (pyAll (sw1.map .lst))) (.list (pyAll (sw2.map .lst))) = true ∧ ks1 = ks2 ∧ (ks1.all fun p => p.2.all D.flat) = true ∧ c = true))
theorem ok_eq {f C : Addr} {fd : FuncData} {k : Nat} (F : L2.Fun K "__eq__" "System.__eq__" sEq f fd) (T : Bt mg) (c : SysC K mg C) (ci : SysI K C) : FnOk P w K mg base CX0 (k + 1) f fd ["self", "other"] (spEqB (RelEq C)) := by
  refine F.ok scEq (fun vs H Q E h => ?_) (fun cdv A outer s H vs Q E hr h => ?_)
  · obtain ⟨a, b, c, rfl, _⟩ := h
    rfl
  · obtain ⟨a, b, cc, rfl, hR, q⟩ := h
    have hu64 : (A.deeper (envOfC "System.__eq__" (defScope sEq) s.heap.objs.size f cdv)).units + 64 < cLine := by
      have := hr.un
      omega
    obtain ⟨sw1, ks1, sw2, ks2, S1, S2, n1, n2, sh1, sh2, hc⟩ := hR
    obtain ⟨dx, pt, ps, pk, pa, pw, rs, kvs, fs, fl, h1, h2, h3, h4, h5, h6, h7⟩ := S1.old
    obtain ⟨dx', pt', ps', pk', pa', pw', rs', kvs', fs', fl', h1', h2', h3', h4', h5', h6', h7'⟩ := S2.old
    refine ⟨_, pss_one (ps_ret (pe_and (pe_callB call_isi (by rfl) T.isi (by decide +kernel) (pa_cons (pv 1) (pa_cons (pe_glob (v := .ref C) rfl c.g rfl) pa_nil)))
      (pe_and (pe_cmpR (op_eqD hu64) (pe_fld (pv 0) rfl) (pe_fld (pv 1) rfl) (nomark _)) (pe_one (pe_cmpR (op_eqV hu64) (pe_fld (pv 0) rfl) (pe_fld (pv 1) rfl) (nomark _)))))), ?_⟩
    refine ⟨_, rfl, .ref b, .ref C, _, _, _, rfl, .own C, .base (.ins h1' c.cl ci.ha ci.hn ci.htk ci.hm), ci.kit, _, rfl, ?_⟩
    refine iteT ?_
    refine ⟨_, rfl, a, C, dx, _, _, rfl, h1, c.cl, c.nS, fl.s, _, rfl, b, C, dx', _, _, rfl, h1', c.cl, c.nS, fl'.s, _, _, .lst (Evl.sq_of h3) (h4.dp n1), .lst (Evl.sq_of h3') (h4'.dp n2), sh1, sh2, _, rfl, ?_⟩
    rcases hc with ⟨e, rfl⟩ | ⟨e, rfl, flt, rfl⟩
    · rw [e]
      refine iteF ?_
      exact q H (Same.refl H)
    · rw [e]
      refine iteT ?_
      refine ⟨_, rfl, a, C, dx, _, _, rfl, h1, c.cl, c.nK, fl.k, _, rfl, b, C, dx', _, _, rfl, h1', c.cl, c.nK, fl'.k, 4, by decide, .inr ⟨pk, pk', kvs, kvs', rfl, rfl, h5, h5', ?_, fun p hp => ?_⟩, q H (Same.refl H)⟩
      · rw [h7.length, h7'.length]
      · obtain ⟨i, hi, ei⟩ := List.getElem_of_mem hp
        obtain ⟨d, hd, hk, hq⟩ := h7.get (List.getElem?_eq_getElem hi)
        have hi' : i < kvs'.length := by rw [h7'.length, ← h7.length]; exact hi
        obtain ⟨d', hd', hk', hq'⟩ := h7'.get (List.getElem?_eq_getElem hi')
        rw [hd] at hd'
        have z0 := Option.some.inj hd'
        have e1 : kvs[i].1 = kvs'[i].1 := (Prod.mk.inj z0).1
        have e2 : d = d' := (Prod.mk.inj z0).2
        subst e2
        rw [ei] at hq hk e1
        refine ⟨kvs'[i].2, ?_, ?_⟩
        · rw [e1]
          exact val_nodup h6' _ (List.getElem_mem hi')
        · obtain ⟨z, hz, ez⟩ : ∃ z, z ∈ ks1 ∧ D.lst z.2 = d := by
            have hm := List.mem_of_getElem? hd
            obtain ⟨z, hz, ez⟩ := List.mem_map.mp hm
            exact ⟨z, hz, congrArg Prod.snd ez⟩
          subst ez
          cases hp2 : p.2 with
          | ref a1 =>
            cases hp3 : kvs'[i].2 with
            | ref a2 =>
              rw [hp2] at hq
              rw [hp3] at hq'
              cases hq with
              | lst q1 q2 =>
                cases hq' with
                | lst q3 q4 => exact .inr (.inr (.inl ⟨a1, a2, _, _, rfl, rfl, Evl.sq_of q1, Evl.sq_of q3, DqAll.flat_eqV (n := 2) (List.all_eq_true.mp flt z hz) q2 q4⟩))
            | _ => rw [hp3] at hq'; cases hq'
          | _ => rw [hp2] at hq; cases hq
end
end K04

set_option maxRecDepth 100000
set_option maxHeartbeats 3000000
namespace K04
open PySem PySem.Spec PyProof.Rows L2 HX
abbrev sFeed : Stmt := topS 23
abbrev sTake : Stmt := topS 24
abbrev sSaid : Stmt := topS 25
theorem scFeed : FnScope ["script", "k", "cell", "digits", "state"] ["script", "k"] (defScope sFeed) := ⟨rfl, rfl, rfl, by decide +kernel, rfl, by decide +kernel, by decide +kernel⟩
theorem scTake : FnScope ["feed", "many", "digit"] ["feed", "many"] (defScope sTake) := ⟨rfl, rfl, rfl, by decide +kernel, rfl, by decide +kernel, by decide +kernel⟩
theorem scSaid : FnScope ["switches", "kinds", "told", "error"] ["switches", "kinds"] (defScope sSaid) := ⟨rfl, rfl, rfl, by decide +kernel, rfl, by decide +kernel, by decide +kernel⟩
structure Bt2 (mg : Str → Option Value) : Prop where
  max : mg "max" = none
  min : mg "min" = none
  abs : mg "abs" = none
section
variable {P : Program} {w : World} {K : PySem.W.Frag} {mg : Str → Option Value} {base : Heap}
/-- the draws stand at p -/
def FeedAt (H : Hp) (p : Addr) : Prop := ∃ d s : Int, 0 ≤ d ∧ 0 ≤ s ∧ H p = some (.lst [.int d, .int s])
def spFeed (K : PySem.W.Frag) : Sp := fun vs H Q _ => ∃ (a : Addr) (ns : List Int) (k : Nat), vs = [.ref a, .int (k : Nat)] ∧ SqL K H a (ns.map V.int) ∧ ∀ p H', H p = none → Same H H' → FeedAt H' p → Q (.ref p) H'
theorem ok_feed {f : Addr} {fd : FuncData} {k : Nat} (F : L2.Fun K "_law_feed" "_law_feed" sFeed f fd) (T : Bt mg) (T2 : Bt2 mg) : FnOk P w K mg base CX0 (k + 1) f fd ["script", "k"] (spFeed K) := by
  refine F.ok scFeed (fun vs H Q E h => ?_) (fun cdv A outer s H vs Q E hr h => ?_)
  · obtain ⟨a, ns, n, rfl, _⟩ := h
    rfl
  · obtain ⟨a, ns, n, rfl, hS, q⟩ := h
    refine ⟨_, pss_cons (ps_set (i := 2) scFeed.nd rfl (Or.inl rfl) (pe_ifExp (pt_cmpR op_lt (pv 1) (pe_callB (lenK K) (by rfl) T.len PySem.boot_len (pa_cons (pv 0) pa_nil)) (nomark _)) (pe_ix ix_list (pv 0) (pv 1) (fun _ _ => rfl)) (pe_op op_add (pe_op op_mul pe_int (pv 1)) pe_int)))
      (pss_cons (ps_set (i := 3) scFeed.nd rfl (Or.inl rfl) (pe_callB (call_max2 rfl) (by rfl) T2.max (by decide +kernel) (pa_cons pe_int (pa_cons (pe_op op_sub (pe_callB call_abs (by rfl) T2.abs (by decide +kernel) (pa_cons (pv 2) pa_nil)) (pe_op op_pow pe_int pe_int)) pa_nil))))
      (pss_cons (ps_set (i := 4) scFeed.nd rfl (Or.inl rfl) (pe_op op_mod (pe_callTy call_int1 (by rfl) T.int (by decide +kernel) (pa_cons (pe_op op_add (pe_op op_add (pe_op op_mul (pv 2) pe_int) (pe_op op_mul pe_int (pv 1))) pe_int) pa_nil)) pe_int))
      (pss_one (ps_ret (pe_lst (pa_cons (pv 3) (pa_cons (pv 4) pa_nil))))))), ?_⟩
    have fin : ∀ c : Int, tSeq (tAsg (tCB (fun xs H Q => ∃ i j, xs = [.int i, .int j] ∧ Q (.int (if j > i then j else i)) H) (tCons (tC (.int 0)) (tCons (tOp (rI0 fun i j => .int (i - j)) (tCB (fun xs H Q => ∃ i, xs = [.int i] ∧ Q (.int (if i < 0 then -i else i)) H) (tCons (tVar 2) tNil)) (tOp (rI CPow fun i j => .int (i ^ j.toNat)) (tC (.int 10)) (tC (.int 18)))) tNil))) (gName 3))
        (tSeq (tAsg (tOp (rI (fun _ j => 0 < j) fun i j => .int (i % j)) (tCB (fun xs H Q => (∃ i, xs = [.int i] ∧ Q (.int i) H) ∨ ∃ k, xs = [.bl k] ∧ Q (.int (if k then 1 else 0)) H) (tCons (tOp (rI0 fun i j => .int (i + j)) (tOp (rI0 fun i j => .int (i + j)) (tOp (rI CMul fun i j => .int (i * j)) (tVar 2) (tC (.int 6364136223846793005))) (tOp (rI CMul fun i j => .int (i * j)) (tC (.int 7919)) (tVar 1))) (tC (.int 1442695040888963407))) tNil)) (tC (.int 2305843009213693951))) (gName 4))
          (tRet (tLst (tCons (tVar 3) (tCons (tVar 4) tNil))))) { nx := fun _ H' => Q .non H', rt := Q } [some (.ref a), some (.int (n : Nat)), some (.int c), none, none] H := fun c => by
      refine ⟨_, rfl, _, rfl, _, _, rfl, rfl, ⟨by decide, by decide, by decide⟩, _, _, rfl, rfl, _, _, rfl, ?_⟩
      refine ⟨_, rfl, _, _, rfl, rfl, .inr ⟨by decide, by decide⟩, _, rfl, _, _, rfl, rfl, .inl ⟨by decide, by decide⟩, _, _, rfl, rfl, _, _, rfl, rfl, .inl ⟨_, rfl, _, _, rfl, rfl, (show (0 : Int) < 2305843009213693951 by decide), ?_⟩⟩
      refine ⟨_, rfl, _, rfl, (by show 2 ≤ sizeLine; decide), fun p hp => ?_⟩
      refine q p _ hp (Evl.Ex.new hp) ⟨_, _, ?_, ?_, upd_same⟩
      · split <;> omega
      · exact Int.emod_nonneg _ (by decide)
    refine ⟨_, rfl, _, rfl, a, _, rfl, .inl hS, _, _, rfl, rfl, _, rfl, ?_⟩
    refine ite2 (fun c => ?_) (fun c => ?_)
    · have hc : (n : Int) < ((ns.map V.int).length : Int) := of_decide_eq_true c
      have hn : n < ns.length := by rw [List.length_map] at hc; omega
      refine ⟨_, rfl, _, rfl, a, _, _, _, rfl, rfl, hS, atI_nat (v := .int ns[n]) (by rw [List.getElem?_map, List.getElem?_eq_getElem hn]; rfl), ?_⟩
      exact fin ns[n]
    · refine ⟨_, rfl, _, _, rfl, rfl, .inl ⟨by decide, by decide⟩, _, _, rfl, rfl, ?_⟩
      exact fin _
def spTake : Sp := fun vs H Q _ => ∃ (p : Addr) (m : Int), vs = [.ref p, .int m] ∧ FeedAt H p ∧ 0 < m ∧ m ≤ 1000 ∧ ∀ r H', 0 ≤ r → r < m → Bx p H H' → FeedAt H' p → Q (.int r) H'
theorem ok_take {f : Addr} {fd : FuncData} {k : Nat} (F : L2.Fun K "_law_take" "_law_take" sTake f fd) (T : Bt mg) : FnOk P w K mg base CX0 (k + 1) f fd ["feed", "many"] spTake := by
  refine F.ok scTake (fun vs H Q E h => ?_) (fun cdv A outer s H vs Q E hr h => ?_)
  · obtain ⟨p, m, rfl, _⟩ := h
    rfl
  · obtain ⟨p, m, rfl, ⟨d, t, hd, ht, hp⟩, hm, hm2, q⟩ := h
    refine ⟨_, pss_cons (ps_if (pt_cmpR op_gt (pe_ix ix_list (pv 0) pe_int (fun _ _ => rfl)) pe_int (nomark _))
        (pss_cons (ps_set (i := 2) scTake.nd rfl (Or.inl rfl) (pe_op op_mod (pe_callTy call_int1 (by rfl) T.int (by decide +kernel) (pa_cons (pe_ix ix_list (pv 0) pe_int (fun _ _ => rfl)) pa_nil)) (pv 1)))
        (pss_cons (ps_asg (pe_op op_fdiv (pe_ix ix_list (pv 0) pe_int (fun _ _ => rfl)) (pv 1)) (pg_sub (pv 0) pe_int set_list))
        (pss_one (ps_ret (pv 2))))) pss_nil)
      (pss_cons (ps_asg (pe_op op_mod (pe_callTy call_int1 (by rfl) T.int (by decide +kernel) (pa_cons (pe_op op_add (pe_op op_mul (pe_ix ix_list (pv 0) pe_int (fun _ _ => rfl)) pe_int) pe_int) pa_nil)) pe_int) (pg_sub (pv 0) pe_int set_list))
      (pss_one (ps_ret (pe_op op_mod (pe_callTy call_int1 (by rfl) T.int (by decide +kernel) (pa_cons (pe_op op_fdiv (pe_ix ix_list (pv 0) pe_int (fun _ _ => rfl)) pe_int) pa_nil)) (pv 1))))), ?_⟩
    have hS : ∀ {H' : Hp} {u v : V}, H' p = some (.lst [u, v]) → SqL K H' p [u, v] := fun h => Evl.sq_of h
    refine ⟨_, rfl, p, _, _, _, rfl, rfl, hS hp, rfl, _, _, rfl, rfl, _, rfl, ?_⟩
    refine ite2 (fun c => ?_) (fun c => ?_)
    · refine ⟨_, rfl, p, _, _, _, rfl, rfl, hS hp, rfl, .inl ⟨_, rfl, _, rfl, _, _, rfl, rfl, hm, ?_⟩⟩
      refine ⟨_, rfl, p, _, _, _, rfl, rfl, hS hp, rfl, _, rfl, _, _, rfl, rfl, ⟨hm, by omega⟩, ?_⟩
      refine ⟨_, rfl, p, _, _, 0, rfl, rfl, hp, rfl, ?_⟩
      refine ⟨_, rfl, ?_⟩
      exact q _ _ (Int.emod_nonneg _ (by omega)) (Int.emod_lt_of_pos _ hm) Bx.upd ⟨d / m, t, Int.ediv_nonneg hd (by omega), ht, upd_same⟩
    · refine ⟨_, rfl, p, _, _, _, rfl, rfl, hS hp, rfl, _, _, rfl, rfl, .inr ⟨by decide, by decide⟩, _, _, rfl, rfl, .inl ⟨_, rfl, _, _, rfl, rfl, (show (0 : Int) < 2305843009213693951 by decide), ?_⟩⟩
      refine ⟨_, rfl, p, _, _, 1, rfl, rfl, hp, rfl, ?_⟩
      refine ⟨_, rfl, p, _, _, _, rfl, rfl, hS upd_same, rfl, _, _, rfl, rfl, ⟨by decide, by decide⟩, .inl ⟨_, rfl, _, rfl, _, _, rfl, rfl, hm, ?_⟩⟩
      exact q _ _ (Int.emod_nonneg _ (by omega)) (Int.emod_lt_of_pos _ hm) Bx.upd ⟨d, _, hd, Int.emod_nonneg _ (by decide), upd_same⟩

/-- what is refused -/
def said (d1 d2 : D) : Str := if areSw d1 = true then (match d1 with
  | .lst l => if areKi l.length d2 = true then "n" else "k"
  | _ => "k") else "s"
def spSaid : Sp := fun vs H Q _ => ∃ v1 v2 d1 d2, vs = [v1, v2] ∧ Dq H v1 d1 ∧ Dq H v2 d2 ∧ kvOk d2 = true ∧ ∀ H', Same H H' → Q (.str (said d1 d2)) H'
structure ErrM (K : PySem.W.Frag) (CS CK : Addr) : Prop where
  ss : PySem.W.exmOne K (.ref CS) (.ref CS) = some true
  ks : PySem.W.exmOne K (.ref CK) (.ref CS) = some false
  kk : PySem.W.exmOne K (.ref CK) (.ref CK) = some true
theorem same_new {H : Hp} {x dx : Addr} {o1 o2 : HO} (hx : H x = none) (hdx : H dx = none) : Same H (upd (upd H dx o1) x o2) := fun b o e => by
  rw [upd_ne (ne_of_none e hx), upd_ne (ne_of_none e hdx)]
  exact e
theorem ok_said {f fN C CS CK fI fNm fW fF fK fS fA fY : Addr} {fd fdN dI dN dW dF dK dS dA dY : FuncData} {k : Nat} (F : L2.Fun K "_law_said" "_law_said" sSaid f fd) (T : Bt mg) (S : Sy K mg fI fNm fW fF fK fS fA fY dI dN dW dF dK dS dA dY) (c : SysC K mg C) (eS : ErrC K mg "BadSwitches" CS) (eK : ErrC K mg "BadKinds" CK) (em : ErrM K CS CK)
    (M : Mk K C fN) (FN : L2.Fun K "__init__" "System.__init__" sInit fN fdN) (bN : Binds K fdN ["self", "switches", "kinds"] []) : FnOk P w K mg base CX0 (k + 7) f fd ["switches", "kinds"] spSaid := by
  have GN : FnOk P w K mg base (L2.CX P w) (k + 5) fN fdN ["self", "switches", "kinds"] (spInit C CS CK) := ok_init FN T S c eS eK
  refine F.ok scSaid (fun vs H Q E h => ?_) (fun cdv A outer s H vs Q E hr h => ?_)
  · obtain ⟨v1, v2, d1, d2, rfl, _⟩ := h
    rfl
  · obtain ⟨v1, v2, d1, d2, rfl, hd1, hd2, ho, q⟩ := h
    refine ⟨_, pss_cons (ps_set (i := 2) scSaid.nd rfl (Or.inl rfl) pe_str)
      (pss_cons (ps_try_manyAs (i := 3) (n := "error") (tb := fun W => tDrop (tMakeS C (spInit C CS CK) (WE W) (tCons (tVar 0) (tCons (tVar 1) tNil))))
          (l := [(.ref CS, fun _ _ _ => tAsg (tC (.str "s")) (gName 2)), (.ref CK, fun _ _ _ => tAsg (tC (.str "k")) (gName 2))]) (Wout := fun _ _ _ _ => False) rfl rfl scSaid.nd rfl rfl takes0
          (fun W pn xe tk _ => pss_one (ps_expr (by exact (pe_makeS M GN hr (by rfl) c.g bN (fun σ => passAt tk σ) (pa_cons (pv 0) (pa_cons (pv 1) pa_nil))))))
          (.cons ⟨rfl, by decide, .inl eS.g⟩ (fun a oe cls d pn hz hf => pss_one (ps_set (i := 2) scSaid.nd rfl (Or.inl rfl) pe_str))
            (.cons ⟨rfl, by decide, .inl eK.g⟩ (fun a oe cls d pn hz hf => pss_one (ps_set (i := 2) scSaid.nd rfl (Or.inl rfl) pe_str)) .nil)))
      (pss_one (ps_ret (pv 2)))), ?_⟩
    -- System(switches, kinds)
    refine ⟨_, rfl, _, rfl, fun x dx hx hdx hne => ?_⟩
    have sn : Same H (upd (upd H dx (.own x)) x (.ins C dx [])) := same_new hx hdx
    refine ⟨noA, x, dx, v1, v2, d1, d2, rfl, upd_same, Tr.no, rfl, hd1.same sn, hd2.same sn, ho, fun z H' s' => ?_, fun l e1 z1 z2 H' s' => ?_, fun sw l ks H' e1 e2 z1 z2 hk b hS => ⟨rfl, ?_⟩⟩
    · have sz := Same.trans sn s'
      refine ⟨true, em.ss, fun _ a na => ?_, (fun z => nomatch z)⟩
      refine ⟨_, rfl, ?_⟩
      have e : said d1 d2 = "s" := by
        unfold said
        rw [if_neg (by rw [z]; exact Bool.false_ne_true)]
      rw [← e]
      exact q _ sz
    · have sz := Same.trans sn s'
      refine ⟨false, em.ks, (fun z => nomatch z), fun _ => ⟨true, em.kk, fun _ a na => ?_, (fun z => nomatch z)⟩⟩
      refine ⟨_, rfl, ?_⟩
      subst e1
      have e : said (.lst l) d2 = "k" := by
        unfold said
        rw [if_pos z1]
        show (if areKi l.length d2 = true then ("n" : Str) else "k") = "k"
        rw [if_neg (by rw [z2]; exact Bool.false_ne_true)]
      rw [← e]
      exact q _ sz
    · have sz : Same H H' := fun b' o h => b b' o (ne_of_none h hx) (sn b' o h)
      refine ⟨_, rfl, ?_⟩
      subst e1
      have e : said (.lst (sw.map .lst)) d2 = "n" := by
        unfold said
        rw [if_pos z1]
        show (if areKi (sw.map D.lst).length d2 = true then ("n" : Str) else "k") = "n"
        rw [List.length_map, if_pos z2]
      rw [← e]
      exact q _ sz
end
end K04

set_option maxRecDepth 100000
set_option maxHeartbeats 3000000
namespace K04
open PySem PySem.Spec PyProof.Rows L2 HX
abbrev sSws : Stmt := topS 26
theorem scSws : FnScope ["rows", "four", "place"] [] (defScope sSws) := ⟨rfl, rfl, rfl, by decide +kernel, rfl, by decide +kernel, by decide +kernel⟩
/-- n lists of n noughts -/
def sqD (n : Nat) : HX.D := .lst ((List.range n).map fun _ => D.lst (List.replicate ((n : Nat) : Int).toNat [D.int 0]).flatten)
def tS0 : List HX.D := [(D.tup [(D.lst [(D.lst [(D.int 0), (D.int 3)]), (D.lst [(D.int 0), (D.int 0)])]), (D.str "n")]), (D.tup [(D.lst [(D.lst [(D.int 0), (D.int 4)]), (D.lst [(D.int 4), (D.int 0)])]), (D.str "n")]), (D.tup [(D.lst [(D.lst [(D.int 0), (D.int 5)]), (D.lst [(D.int 0), (D.int 0)])]), (D.str "s")]), (D.tup [(D.lst [(D.lst [(D.int 0), (D.int 3)]), (D.lst [(D.int 0), (D.int 1)])]), (D.str "s")])]
def tS1 : List HX.D := [(D.tup [(D.lst [(D.lst [(D.int 1), (D.int 3)]), (D.lst [(D.int 0), (D.int 0)])]), (D.str "s")]), (D.tup [(D.lst [(D.lst [(D.int 0), (D.int (-1))]), (D.lst [(D.int 0), (D.int 0)])]), (D.str "s")]), (D.tup [(D.lst [(D.lst [(D.int 0), (D.bl true)]), (D.lst [(D.int 0), (D.int 0)])]), (D.str "s")])]
def tS2 : List HX.D := [(D.tup [(D.lst [(D.lst [(D.int 0), (D.int 3)]), (D.lst [(D.int 0), (D.bl false)])]), (D.str "s")]), (D.tup [(D.lst [(D.lst [(D.bl false), (D.int 3)]), (D.lst [(D.int 0), (D.int 0)])]), (D.str "s")]), (D.tup [(D.lst [(D.lst [(D.int 0), D.non]), (D.lst [(D.int 0), (D.int 0)])]), (D.str "s")])]
def tS3 : List HX.D := [(D.tup [(D.lst [(D.lst [(D.int 0), (D.int 3)]), (D.lst [(D.int 0)])]), (D.str "s")]), (D.tup [(D.lst [(D.lst [(D.int 0), (D.int 3)]), (D.lst [(D.int 0), (D.int 0), (D.int 0)])]), (D.str "s")]), (D.tup [(D.lst [(D.lst [(D.int 0), (D.int 3)])]), (D.str "s")]), (D.tup [(D.lst []), (D.str "s")]), (D.tup [D.non, (D.str "s")])]
def tS4 : List HX.D := [(D.tup [(D.tup [(D.tup [(D.int 0), (D.int 3)]), (D.tup [(D.int 0), (D.int 0)])]), (D.str "s")]), (D.tup [(D.lst [(D.tup [(D.int 0), (D.int 3)]), (D.lst [(D.int 0), (D.int 0)])]), (D.str "s")]), (D.tup [(D.lst [(D.lst [(D.int 0), (D.int 3)]), (D.tup [(D.int 0), (D.int 0)])]), (D.str "s")]), (D.tup [(D.lst [(D.lst [(D.int 0)])]), (D.str "k")])]
def tS5 : HX.D := .tup [sqD 5, .str "s"]
def tS6 : List HX.D := [.tup [sqD 4, .str "k"], .tup [sqD 3, .str "k"]]
def tblS : List HX.D := (((((tS0 ++ tS1) ++ tS2) ++ tS3) ++ tS4) ++ [tS5]) ++ tS6
section
variable {P : Program} {w : World} {K : PySem.W.Frag} {mg : Str → Option Value} {base : Heap}
def spTbl (d : HX.D) : Sp := fun vs H Q _ => vs = [] ∧ ∀ v H', Same H H' → Dq H' v d → Q v H'
theorem eq_sq {A : Addr → Bool} {σ : L2.St} {H : Hp} {j : Nat} {vs : List Nat} {n : Nat} (t : Tr A H) (hn : n ≤ 100) (hw : ∀ x, wipe ((wipe σ vs).set j (some x)) vs = wipe σ vs) :
    EvQ A (tLc (iRng1 (tCons (tC (.int (n : Nat))) tNil)) (gName j) tYes (tOp rRep (tLst (tCons (tC (.int 0)) tNil)) (tC (.int (n : Nat)))) vs) σ H (sqD n) :=
  eq_lcR (lo := 0) (n := n) (fun _ => D.lst (List.replicate ((n : Nat) : Int).toNat [D.int 0]).flatten) t (by omega) hw (fun H1 e1 R r => ⟨(n : Nat), rfl, by omega, by omega, by rw [Int.toNat_natCast]; exact r H1 (Same.refl _)⟩)
    (fun i A' H1 e t' hi => eq_rep t' (eq_lst t' (eqa_cons eq_int' eqa_nil) (by decide)) Evl.ev_c (by omega) (by decide))
theorem ok_sws {f : Addr} {fd : FuncData} {k : Nat} (F : L2.Fun K "_law_switches" "_law_switches" sSws f fd) (T : Bt mg) : FnOk P w K mg base CX0 (k + 1) f fd [] (spTbl (.lst tblS)) := by
  refine F.ok scSws (fun vs H Q E h => ?_) (fun cdv A outer s H vs Q E hr h => ?_)
  · obtain ⟨rfl, _⟩ := h
    rfl
  · obtain ⟨rfl, q⟩ := h
    refine ⟨_, (pss_cons (ps_set (i := 0) scSws.nd rfl (Or.inl rfl) (pe_lst (pa_cons (pe_tup (pa_cons (pe_lst (pa_cons (pe_lst (pa_cons pe_int (pa_cons pe_int pa_nil))) (pa_cons (pe_lst (pa_cons pe_int (pa_cons pe_int pa_nil))) pa_nil))) (pa_cons pe_str pa_nil))) (pa_cons (pe_tup (pa_cons (pe_lst (pa_cons (pe_lst (pa_cons pe_int (pa_cons pe_int pa_nil))) (pa_cons (pe_lst (pa_cons pe_int (pa_cons pe_int pa_nil))) pa_nil))) (pa_cons pe_str pa_nil))) (pa_cons (pe_tup (pa_cons (pe_lst (pa_cons (pe_lst (pa_cons pe_int (pa_cons pe_int pa_nil))) (pa_cons (pe_lst (pa_cons pe_int (pa_cons pe_int pa_nil))) pa_nil))) (pa_cons pe_str pa_nil))) (pa_cons (pe_tup (pa_cons (pe_lst (pa_cons (pe_lst (pa_cons pe_int (pa_cons pe_int pa_nil))) (pa_cons (pe_lst (pa_cons pe_int (pa_cons pe_int pa_nil))) pa_nil))) (pa_cons pe_str pa_nil))) pa_nil))))))
      (pss_cons (ps_set (i := 0) scSws.nd rfl (Or.inl rfl) (pe_op op_cat (pv 0) (pe_lst (pa_cons (pe_tup (pa_cons (pe_lst (pa_cons (pe_lst (pa_cons pe_int (pa_cons pe_int pa_nil))) (pa_cons (pe_lst (pa_cons pe_int (pa_cons pe_int pa_nil))) pa_nil))) (pa_cons pe_str pa_nil))) (pa_cons (pe_tup (pa_cons (pe_lst (pa_cons (pe_lst (pa_cons pe_int (pa_cons (pe_un un_neg pe_int) pa_nil))) (pa_cons (pe_lst (pa_cons pe_int (pa_cons pe_int pa_nil))) pa_nil))) (pa_cons pe_str pa_nil))) (pa_cons (pe_tup (pa_cons (pe_lst (pa_cons (pe_lst (pa_cons pe_int (pa_cons pe_bl pa_nil))) (pa_cons (pe_lst (pa_cons pe_int (pa_cons pe_int pa_nil))) pa_nil))) (pa_cons pe_str pa_nil))) pa_nil))))))
      (pss_cons (ps_set (i := 0) scSws.nd rfl (Or.inl rfl) (pe_op op_cat (pv 0) (pe_lst (pa_cons (pe_tup (pa_cons (pe_lst (pa_cons (pe_lst (pa_cons pe_int (pa_cons pe_int pa_nil))) (pa_cons (pe_lst (pa_cons pe_int (pa_cons pe_bl pa_nil))) pa_nil))) (pa_cons pe_str pa_nil))) (pa_cons (pe_tup (pa_cons (pe_lst (pa_cons (pe_lst (pa_cons pe_bl (pa_cons pe_int pa_nil))) (pa_cons (pe_lst (pa_cons pe_int (pa_cons pe_int pa_nil))) pa_nil))) (pa_cons pe_str pa_nil))) (pa_cons (pe_tup (pa_cons (pe_lst (pa_cons (pe_lst (pa_cons pe_int (pa_cons pe_non pa_nil))) (pa_cons (pe_lst (pa_cons pe_int (pa_cons pe_int pa_nil))) pa_nil))) (pa_cons pe_str pa_nil))) pa_nil))))))
      (pss_cons (ps_set (i := 0) scSws.nd rfl (Or.inl rfl) (pe_op op_cat (pv 0) (pe_lst (pa_cons (pe_tup (pa_cons (pe_lst (pa_cons (pe_lst (pa_cons pe_int (pa_cons pe_int pa_nil))) (pa_cons (pe_lst (pa_cons pe_int pa_nil)) pa_nil))) (pa_cons pe_str pa_nil))) (pa_cons (pe_tup (pa_cons (pe_lst (pa_cons (pe_lst (pa_cons pe_int (pa_cons pe_int pa_nil))) (pa_cons (pe_lst (pa_cons pe_int (pa_cons pe_int (pa_cons pe_int pa_nil)))) pa_nil))) (pa_cons pe_str pa_nil))) (pa_cons (pe_tup (pa_cons (pe_lst (pa_cons (pe_lst (pa_cons pe_int (pa_cons pe_int pa_nil))) pa_nil)) (pa_cons pe_str pa_nil))) (pa_cons (pe_tup (pa_cons (pe_lst pa_nil) (pa_cons pe_str pa_nil))) (pa_cons (pe_tup (pa_cons pe_non (pa_cons pe_str pa_nil))) pa_nil))))))))
      (pss_cons (ps_set (i := 0) scSws.nd rfl (Or.inl rfl) (pe_op op_cat (pv 0) (pe_lst (pa_cons (pe_tup (pa_cons (pe_tup (pa_cons (pe_tup (pa_cons pe_int (pa_cons pe_int pa_nil))) (pa_cons (pe_tup (pa_cons pe_int (pa_cons pe_int pa_nil))) pa_nil))) (pa_cons pe_str pa_nil))) (pa_cons (pe_tup (pa_cons (pe_lst (pa_cons (pe_tup (pa_cons pe_int (pa_cons pe_int pa_nil))) (pa_cons (pe_lst (pa_cons pe_int (pa_cons pe_int pa_nil))) pa_nil))) (pa_cons pe_str pa_nil))) (pa_cons (pe_tup (pa_cons (pe_lst (pa_cons (pe_lst (pa_cons pe_int (pa_cons pe_int pa_nil))) (pa_cons (pe_tup (pa_cons pe_int (pa_cons pe_int pa_nil))) pa_nil))) (pa_cons pe_str pa_nil))) (pa_cons (pe_tup (pa_cons (pe_lst (pa_cons (pe_lst (pa_cons pe_int pa_nil)) pa_nil)) (pa_cons pe_str pa_nil))) pa_nil)))))))
      (pss_cons (ps_setLc (i := 1) (own := [("place", 2)]) (g := gName 2) (tt := tYes) rfl scSws.nd rfl rfl (sw_true rfl rfl rfl (by decide +kernel)) (pi_range1 rfl T.range (pa_cons pe_int pa_nil)) (blkOk_by (own := [("place", 2)]) (N := ["rows", "four", "place"]) (sc := defScope sSws) (by decide +kernel)) (fun _ _ _ _ _ => pg_name (i := 2) scSws.nd rfl (Or.inl rfl)) (fun _ _ _ _ _ => pts_nil) (fun _ _ _ _ _ => (pe_op op_rep (pe_lst (pa_cons pe_int pa_nil)) pe_int)))
      (pss_cons (ps_expr (pe_bm PySem.F.plainAttrs_list PySem.F.slot_list_append PySem.F.type_list_append mt_append (pv 0) (pa_cons (pe_tup (pa_cons (pe_lc (own := [("place", 2)]) (g := gName 2) (tt := tYes) rfl scSws.nd (pi_range1 rfl T.range (pa_cons pe_int pa_nil)) (blkOk_by (own := [("place", 2)]) (N := ["rows", "four", "place"]) (sc := defScope sSws) (by decide +kernel)) (fun _ _ _ _ _ => pg_name (i := 2) scSws.nd rfl (Or.inl rfl)) (fun _ _ _ _ _ => pts_nil) (fun _ _ _ _ _ => (pe_op op_rep (pe_lst (pa_cons pe_int pa_nil)) pe_int))) (pa_cons pe_str pa_nil))) pa_nil)))
      (pss_one (ps_ret (pe_op op_cat (pv 0) (pe_lst (pa_cons (pe_tup (pa_cons (pv 1) (pa_cons pe_str pa_nil))) (pa_cons (pe_tup (pa_cons (pe_lc (own := [("place", 2)]) (g := gName 2) (tt := tYes) rfl scSws.nd (pi_range1 rfl T.range (pa_cons pe_int pa_nil)) (blkOk_by (own := [("place", 2)]) (N := ["rows", "four", "place"]) (sc := defScope sSws) (by decide +kernel)) (fun _ _ _ _ _ => pg_name (i := 2) scSws.nd rfl (Or.inl rfl)) (fun _ _ _ _ _ => pts_nil) (fun _ _ _ _ _ => (pe_op op_rep (pe_lst (pa_cons pe_int pa_nil)) pe_int))) (pa_cons pe_str pa_nil))) pa_nil))))))))))))), ?_⟩
    refine s_asgQ (A := noA) (d := .lst tS0) (eq_lst Tr.no (eqa_cons (eq_tup Tr.no (eqa_cons (eq_lst Tr.no (eqa_cons (eq_lst Tr.no (eqa_cons eq_int' (eqa_cons eq_int' eqa_nil)) (by decide)) (eqa_cons (eq_lst Tr.no (eqa_cons eq_int' (eqa_cons eq_int' eqa_nil)) (by decide)) eqa_nil)) (by decide)) (eqa_cons (eq_str (by decide +kernel)) eqa_nil)) (by decide)) (eqa_cons (eq_tup Tr.no (eqa_cons (eq_lst Tr.no (eqa_cons (eq_lst Tr.no (eqa_cons eq_int' (eqa_cons eq_int' eqa_nil)) (by decide)) (eqa_cons (eq_lst Tr.no (eqa_cons eq_int' (eqa_cons eq_int' eqa_nil)) (by decide)) eqa_nil)) (by decide)) (eqa_cons (eq_str (by decide +kernel)) eqa_nil)) (by decide)) (eqa_cons (eq_tup Tr.no (eqa_cons (eq_lst Tr.no (eqa_cons (eq_lst Tr.no (eqa_cons eq_int' (eqa_cons eq_int' eqa_nil)) (by decide)) (eqa_cons (eq_lst Tr.no (eqa_cons eq_int' (eqa_cons eq_int' eqa_nil)) (by decide)) eqa_nil)) (by decide)) (eqa_cons (eq_str (by decide +kernel)) eqa_nil)) (by decide)) (eqa_cons (eq_tup Tr.no (eqa_cons (eq_lst Tr.no (eqa_cons (eq_lst Tr.no (eqa_cons eq_int' (eqa_cons eq_int' eqa_nil)) (by decide)) (eqa_cons (eq_lst Tr.no (eqa_cons eq_int' (eqa_cons eq_int' eqa_nil)) (by decide)) eqa_nil)) (by decide)) (eqa_cons (eq_str (by decide +kernel)) eqa_nil)) (by decide)) eqa_nil)))) (by decide)) (fun v0 H0 e0 d0 => ?_)
    dsimp only [tSeq]
    refine s_asgQ (A := noA) (eq_cat (as := tS0) (bs := tS1) Tr.no (eq_var rfl d0) (eq_lst Tr.no (eqa_cons (eq_tup Tr.no (eqa_cons (eq_lst Tr.no (eqa_cons (eq_lst Tr.no (eqa_cons eq_int' (eqa_cons eq_int' eqa_nil)) (by decide)) (eqa_cons (eq_lst Tr.no (eqa_cons eq_int' (eqa_cons eq_int' eqa_nil)) (by decide)) eqa_nil)) (by decide)) (eqa_cons (eq_str (by decide +kernel)) eqa_nil)) (by decide)) (eqa_cons (eq_tup Tr.no (eqa_cons (eq_lst Tr.no (eqa_cons (eq_lst Tr.no (eqa_cons eq_int' (eqa_cons eq_negi eqa_nil)) (by decide)) (eqa_cons (eq_lst Tr.no (eqa_cons eq_int' (eqa_cons eq_int' eqa_nil)) (by decide)) eqa_nil)) (by decide)) (eqa_cons (eq_str (by decide +kernel)) eqa_nil)) (by decide)) (eqa_cons (eq_tup Tr.no (eqa_cons (eq_lst Tr.no (eqa_cons (eq_lst Tr.no (eqa_cons eq_int' (eqa_cons eq_bl eqa_nil)) (by decide)) (eqa_cons (eq_lst Tr.no (eqa_cons eq_int' (eqa_cons eq_int' eqa_nil)) (by decide)) eqa_nil)) (by decide)) (eqa_cons (eq_str (by decide +kernel)) eqa_nil)) (by decide)) eqa_nil))) (by decide)) (by decide)) (fun v1 H1 e1 d1 => ?_)
    dsimp only [tSeq]
    refine s_asgQ (A := noA) (eq_cat (as := (tS0 ++ tS1)) (bs := tS2) Tr.no (eq_var rfl d1) (eq_lst Tr.no (eqa_cons (eq_tup Tr.no (eqa_cons (eq_lst Tr.no (eqa_cons (eq_lst Tr.no (eqa_cons eq_int' (eqa_cons eq_int' eqa_nil)) (by decide)) (eqa_cons (eq_lst Tr.no (eqa_cons eq_int' (eqa_cons eq_bl eqa_nil)) (by decide)) eqa_nil)) (by decide)) (eqa_cons (eq_str (by decide +kernel)) eqa_nil)) (by decide)) (eqa_cons (eq_tup Tr.no (eqa_cons (eq_lst Tr.no (eqa_cons (eq_lst Tr.no (eqa_cons eq_bl (eqa_cons eq_int' eqa_nil)) (by decide)) (eqa_cons (eq_lst Tr.no (eqa_cons eq_int' (eqa_cons eq_int' eqa_nil)) (by decide)) eqa_nil)) (by decide)) (eqa_cons (eq_str (by decide +kernel)) eqa_nil)) (by decide)) (eqa_cons (eq_tup Tr.no (eqa_cons (eq_lst Tr.no (eqa_cons (eq_lst Tr.no (eqa_cons eq_int' (eqa_cons eq_non eqa_nil)) (by decide)) (eqa_cons (eq_lst Tr.no (eqa_cons eq_int' (eqa_cons eq_int' eqa_nil)) (by decide)) eqa_nil)) (by decide)) (eqa_cons (eq_str (by decide +kernel)) eqa_nil)) (by decide)) eqa_nil))) (by decide)) (by decide)) (fun v2 H2 e2 d2 => ?_)
    dsimp only [tSeq]
    refine s_asgQ (A := noA) (eq_cat (as := ((tS0 ++ tS1) ++ tS2)) (bs := tS3) Tr.no (eq_var rfl d2) (eq_lst Tr.no (eqa_cons (eq_tup Tr.no (eqa_cons (eq_lst Tr.no (eqa_cons (eq_lst Tr.no (eqa_cons eq_int' (eqa_cons eq_int' eqa_nil)) (by decide)) (eqa_cons (eq_lst Tr.no (eqa_cons eq_int' eqa_nil) (by decide)) eqa_nil)) (by decide)) (eqa_cons (eq_str (by decide +kernel)) eqa_nil)) (by decide)) (eqa_cons (eq_tup Tr.no (eqa_cons (eq_lst Tr.no (eqa_cons (eq_lst Tr.no (eqa_cons eq_int' (eqa_cons eq_int' eqa_nil)) (by decide)) (eqa_cons (eq_lst Tr.no (eqa_cons eq_int' (eqa_cons eq_int' (eqa_cons eq_int' eqa_nil))) (by decide)) eqa_nil)) (by decide)) (eqa_cons (eq_str (by decide +kernel)) eqa_nil)) (by decide)) (eqa_cons (eq_tup Tr.no (eqa_cons (eq_lst Tr.no (eqa_cons (eq_lst Tr.no (eqa_cons eq_int' (eqa_cons eq_int' eqa_nil)) (by decide)) eqa_nil) (by decide)) (eqa_cons (eq_str (by decide +kernel)) eqa_nil)) (by decide)) (eqa_cons (eq_tup Tr.no (eqa_cons (eq_lst Tr.no eqa_nil (by decide)) (eqa_cons (eq_str (by decide +kernel)) eqa_nil)) (by decide)) (eqa_cons (eq_tup Tr.no (eqa_cons eq_non (eqa_cons (eq_str (by decide +kernel)) eqa_nil)) (by decide)) eqa_nil))))) (by decide)) (by decide)) (fun v3 H3 e3 d3 => ?_)
    dsimp only [tSeq]
    refine s_asgCat (as := (((tS0 ++ tS1) ++ tS2) ++ tS3)) (bs := tS4) (eq_var rfl d3) (eq_lst Tr.no (eqa_cons (eq_tup Tr.no (eqa_cons (eq_tup Tr.no (eqa_cons (eq_tup Tr.no (eqa_cons eq_int' (eqa_cons eq_int' eqa_nil)) (by decide)) (eqa_cons (eq_tup Tr.no (eqa_cons eq_int' (eqa_cons eq_int' eqa_nil)) (by decide)) eqa_nil)) (by decide)) (eqa_cons (eq_str (by decide +kernel)) eqa_nil)) (by decide)) (eqa_cons (eq_tup Tr.no (eqa_cons (eq_lst Tr.no (eqa_cons (eq_tup Tr.no (eqa_cons eq_int' (eqa_cons eq_int' eqa_nil)) (by decide)) (eqa_cons (eq_lst Tr.no (eqa_cons eq_int' (eqa_cons eq_int' eqa_nil)) (by decide)) eqa_nil)) (by decide)) (eqa_cons (eq_str (by decide +kernel)) eqa_nil)) (by decide)) (eqa_cons (eq_tup Tr.no (eqa_cons (eq_lst Tr.no (eqa_cons (eq_lst Tr.no (eqa_cons eq_int' (eqa_cons eq_int' eqa_nil)) (by decide)) (eqa_cons (eq_tup Tr.no (eqa_cons eq_int' (eqa_cons eq_int' eqa_nil)) (by decide)) eqa_nil)) (by decide)) (eqa_cons (eq_str (by decide +kernel)) eqa_nil)) (by decide)) (eqa_cons (eq_tup Tr.no (eqa_cons (eq_lst Tr.no (eqa_cons (eq_lst Tr.no (eqa_cons eq_int' eqa_nil) (by decide)) eqa_nil) (by decide)) (eqa_cons (eq_str (by decide +kernel)) eqa_nil)) (by decide)) eqa_nil)))) (by decide)) (by decide) (fun p xs H4 e4 np hp hx => ?_)
    dsimp only [tSeq]
    refine s_asgQ (A := only p) (d := sqD 4) (eq_sq (n := 4) (only_tr hp) (by decide) (fun _ => rfl)) (fun v5 H5 e5 d5 => ?_)
    dsimp only [tSeq]
    refine s_appQ (d := tS5) (e5 _ _ hp) (Evl.ev_var rfl) (eq_tup (only_tr (e5 _ _ hp)) (eqa_cons (eq_sq (n := 5) (only_tr (e5 _ _ hp)) (by decide) (fun _ => rfl)) (eqa_cons (eq_str (by decide +kernel)) eqa_nil)) (by decide)) (hx.same (mask_same e5)) (by decide) (fun v6 H6 b6 h6 x6 m6 => ?_)
    refine s_retQ (A := noA) (eq_cat (as := ((((tS0 ++ tS1) ++ tS2) ++ tS3) ++ tS4) ++ [tS5]) (bs := tS6) Tr.no (eq_var rfl (Dq.no (.lst h6 (x6.same mask_un)))) (eq_lst Tr.no (eqa_cons (eq_tup Tr.no (eqa_cons (eq_var rfl (Dq.no ((d5.same m6).same mask_un))) (eqa_cons (eq_str (by decide +kernel)) eqa_nil)) (by decide)) (eqa_cons (eq_tup Tr.no (eqa_cons (eq_sq (n := 3) Tr.no (by decide) (fun _ => rfl)) (eqa_cons (eq_str (by decide +kernel)) eqa_nil)) (by decide)) eqa_nil)) (by decide)) (by decide)) (fun v7 H7 e7 d7 => ?_)
    refine q v7 H7 (fun b o hb => e7 _ _ (b6 _ _ (ne_of_none (e3 _ _ (e2 _ _ (e1 _ _ (e0 _ _ hb)))) np) (e5 _ _ (e4 _ _ (e3 _ _ (e2 _ _ (e1 _ _ (e0 _ _ hb)))))))) ?_
    rw [mask_no] at d7
    exact d7

end
end K04

set_option maxRecDepth 100000
set_option maxHeartbeats 3000000
namespace HX
open PySem PySem.Spec PyProof.Rows L2
/-! ### dicts whose keys are numbers, texts, None, in any mix -/
def LdP (P : Program) (w : World) (a : Addr) (kvs : List (Leaf × V)) (h : Heap) : Prop := (a == sysModules) = false ∧ kvs.length ≤ 1000 ∧ ∃ vs : List (Leaf × Value), KV kvs vs ∧ h.DictOf (leafKind P w) a vs
def LdO (P : Program) (w : World) (a : Addr) (kvs : List (Leaf × V)) : HO := .ext (LdP P w a kvs)
/-- a key as it is met -/
def KeyV : Leaf → V → Prop
  | .none, x => x = .non
  | .text s, x => x = .str s
  | .num i, x => x = .int i ∨ ∃ b : Bool, x = .bl b ∧ (if b = true then (1 : Int) else 0) = i
theorem keyV_of {k : Leaf} {u : Value} (h : Leaf.isOf k u = true) : ∃ x, KeyV k x ∧ RelV x u := by
  cases k with
  | none =>
    cases u with
    | none => exact ⟨.non, rfl, rfl⟩
    | _ => cases h
  | num i =>
    cases u with
    | int j t =>
      have e : j = i := of_decide_eq_true h
      subst e
      exact ⟨.int j, .inl rfl, ⟨t, rfl⟩⟩
    | bool b => exact ⟨.bl b, .inr ⟨b, rfl, of_decide_eq_true h⟩, rfl⟩
    | _ => cases h
  | text s =>
    obtain ⟨t, rfl⟩ := Value.isStrOf_shape (show Value.isStrOf s u = true from h)
    exact ⟨.str s, rfl, ⟨t, rfl⟩⟩
def kL : Leaf → V
  | .none => .non
  | .num i => .int i
  | .text s => .str s
theorem kL_is {k : Leaf} {u : Value} (r : RelV (kL k) u) : Leaf.isOf k u = true := by
  cases k with
  | none =>
    obtain rfl : u = Value.none := r
    rfl
  | num i =>
    obtain ⟨t, rfl⟩ : ∃ t, u = Value.int i t := r
    exact decide_eq_true rfl
  | text s =>
    obtain ⟨t, rfl⟩ := (show ∃ t, u = Value.str s t from r)
    show Value.isStrOf s (.str s t) = true
    simp [Value.isStrOf]
theorem ldP_stay {P : Program} {w : World} {a : Addr} {kvs : List (Leaf × V)} : ∀ h1 h2 : Heap, LdP P w a kvs h1 → (∀ o, h1.get? a = some o → h2.get? a = some o) → LdP P w a kvs h2 := fun h1 h2 ⟨n, hl, vs, r, o, es, ep, e, z⟩ k => ⟨n, hl, vs, r, o, es, ep, k o e, z⟩
theorem ldO_ok {P : Program} {w : World} {H : Hp} {h : Heap} {a : Addr} {kvs : List (Leaf × V)} (x : LdP P w a kvs h) : ObjOk P w H h a (LdO P w a kvs) :=
  ⟨x, let ⟨_, _, _, _, o, _, _, e, _⟩ := x; ⟨o, e⟩, ldP_stay⟩
section
variable {X : Cx} {pins : List (Addr × Obj)} {σ : L2.St} {H : Hp} {s : Shared} {a : Addr} {kvs : List (Leaf × V)}
theorem ld_of (I : Inv X pins σ H s) (e : Rd H a (LdO X.prog X.w a kvs)) : LdP X.prog X.w a kvs s.heap := (e.ok I.hok).1
def mergeL (kvs more : List (Leaf × V)) : List (Leaf × V) := more.foldl (fun acc kv => putK acc kv.1 kv.2) kvs
theorem KV.mergeL : ∀ {more : List (Leaf × V)} {rs : List (Leaf × Value)} {kvs : List (Leaf × V)} {vs : List (Leaf × Value)}, KV more rs → KV kvs vs → KV (HX.mergeL kvs more) (merged vs rs) := by
  intro more rs kvs vs r
  unfold KV at r
  induction r generalizing vs kvs with
  | nil => exact fun q => q
  | @cons p q ps qs h t ih =>
    obtain ⟨h1, h2⟩ := h
    intro r0
    have := r0.put p.1 h2
    rw [h1] at this
    show KV (HX.mergeL (putK kvs p.1 p.2) ps) (merged (stored vs q.1 q.2) qs)
    rw [h1]
    exact ih this
theorem carriesL_of {P : Program} {w : World} : ∀ {kvs : List (Leaf × V)} {ws : List (Value × Value)}, VV (kvs.map fun kv => (kL kv.1, kv.2)) ws → ∃ rs, Carries (leafKind P w) ws rs ∧ KV kvs rs
  | [], _, r => by
    rw [List.map_nil] at r
    cases r
    exact ⟨[], True.intro, .nil⟩
  | p :: kvs, _, r => by
    rw [List.map_cons] at r
    cases r with
    | @cons a b as bs h t =>
      obtain ⟨rs, c, q⟩ := carriesL_of (P := P) (w := w) t
      obtain ⟨b1, b2⟩ := b
      exact ⟨(p.1, b2) :: rs, ⟨kL_is h.1, rfl, c⟩, .cons ⟨rfl, h.2⟩ q⟩
/-- {k: v, ..} -/
def tDispL (P : Program) (w : World) (trs : List (TE × TE)) : TE := fun σ H Q => ∀ p, H p = none → tPairs trs σ (upd H p (LdO P w p [])) fun ps H2 => H2 p = some (LdO P w p []) ∧ ∃ kvs : List (Leaf × V), ps = kvs.map (fun kv => (kL kv.1, kv.2)) ∧ (mergeL [] kvs).length ≤ 1000 ∧ Q (.ref p) (upd H2 p (LdO P w p (mergeL [] kvs)))
theorem pe_dispL {pos : Pos} {keys : List (Option Expr)} {values : List Expr} {trs : List (TE × TE)} (parts : PPs X pos keys values trs) (nostar : keys.all (·.isSome) = true) (even : keys.length = values.length) (some_ : keys ≠ []) (few : keys.length ≤ 15) : PE X (Expr.Dict keys values pos) (tDispL X.prog X.w trs) := by
  constructor
  intro pins s σ H Q I told
  have far : (s.heap.objs.size == sysModules) = false := beq_eq_false_iff_ne.mpr (Nat.ne_of_gt I.big)
  have empty : LdP X.prog X.w s.heap.objs.size [] (s.heap.push { cls := .type "dict", data := .dict #[] }) := ⟨far, Nat.zero_le _, [], Paired.nil, _, #[], _, Heap.get?_push_size _ rfl, ⟨rfl, rfl, rfl⟩, rfl, by intro i hi; exact absurd hi (by simp), Pairs.nil, List.nodup_nil⟩
  have J := I.laid (t' := s.toks) (fun _ _ z => Heap.get?_push_of_some _ z) (Nat.le_refl _) (ldO_ok (H := upd H s.heap.objs.size (LdO X.prog X.w s.heap.objs.size [])) empty)
  apply wpAny_Dict_walk (knd := leafKind X.prog X.w) nostar even some_ few
  apply thn (parts.run pins _ σ _ _ J (told _ (I.hok.fresh (Nat.le_refl _))))
  rintro ws s2 ⟨ps, H2, I2, rel, here, kvs, eps, short, wish⟩
  rw [eps] at rel
  rcases carriesL_of rel with ⟨rs, carried, vals⟩
  rcases ld_of I2 (Or.inl here) with ⟨far2, _, vs0, r0, there⟩
  match vs0, r0 with
  | [], _ =>
    refine ⟨rs, carried, there, fun h' there' same => ?_⟩
    refine ⟨V.ref s.heap.objs.size, upd H2 s.heap.objs.size (LdO X.prog X.w s.heap.objs.size (mergeL [] kvs)), ?_, rfl, wish⟩
    apply d_write I2 (by rw [here]; exact True.intro) same
    · rcases there' with ⟨o, _, _, z, _⟩
      exact ⟨o, z⟩
    · exact ldO_ok ⟨far2, short, _, KV.mergeL vals Paired.nil, there'⟩
/-- isinstance(d, dict) -/
theorem isi_ld : CallR X (.builtin "isinstance") (fun xs H Q => ∃ a kvs, xs = [.ref a, .ty "dict"] ∧ Rd H a (LdO X.prog X.w a kvs) ∧ Q (.bl true) H) := by
  rintro pins s σ H xs us Q I vals ⟨a, kvs, ex, at_, wish⟩
  subst ex
  match us, vals with
  | [u, t], .cons ru (.cons rt .nil) =>
    have eu : u = Value.ref a := ru
    have et : t = Value.type "dict" := rt
    rcases ld_of I at_ with ⟨_, _, _, _, o, _, _, there, exact_, _⟩
    rw [eu, et]
    exact PySem.W.kia_one PySem.W.kitx_dict I.kIn ⟨o, there, exact_.1⟩ (kit_ty (by decide +kernel)) (by simp) fun tk => ⟨V.bl true, H, I.tok tk, rfl, wish⟩
theorem len_ld : CallR X (.builtin "len") (fun xs H Q => ∃ a kvs, xs = [V.ref a] ∧ Rd H a (LdO X.prog X.w a kvs) ∧ Q (.int kvs.length) H) := by
  rintro pins s σ H xs us Q I vals ⟨a, kvs, ex, at_, wish⟩
  subst ex
  match us, vals with
  | [u], .cons ru .nil =>
    have eu : u = Value.ref a := ru
    rcases ld_of I at_ with ⟨_, short, vs, rel, there⟩
    have many : kvs.length = vs.length := Paired.length rel
    rw [eu]
    apply call_len_dict (ld_of I at_).1 there (by omega)
    rw [← many]
    exact ⟨V.int kvs.length, H, I.tok _, ⟨_, rfl⟩, wish⟩
/-- d[k] -/
def tLGet (P : Program) (w : World) (td ty : TE) : TE := fun σ H Q => td σ H fun x H1 => ty σ H1 fun y H2 => ∃ a kvs k v, x = .ref a ∧ Rd H2 a (LdO P w a kvs) ∧ y = kL k ∧ valV kvs k = some v ∧ Q v H2
theorem pe_lget {o i : Expr} {pos : Pos} {td ty : TE} (P : Program) (w : World) (ho : PE X o td) (hi : PE X i ty) (hs : NoSl i) (hP : X.prog = P := by rfl) (hw : X.w = w := by rfl) : PE X (.Subscript o i pos) (tLGet P w td ty) := by
  subst hP hw
  refine ⟨fun pins s σ H Q I h => ?_⟩
  refine subD_of PySem.F.slot_dict_getitem.lookup hs (thn (ho.run pins s σ H _ I h) fun u s1 ⟨x, H1, I1, rx, q1⟩ => thn (hi.run pins s1 σ H1 _ I1 q1) fun iv s2 ⟨y, H2, I2, ry, a, kvs, k, v, ex, e, ey, l, q2⟩ => ?_)
  subst ex
  subst ey
  obtain rfl : u = Value.ref a := rx
  obtain ⟨hd, hl, vs, rel, dd⟩ := ld_of I2 e
  obtain ⟨w', hw, rw'⟩ : ∃ z, valueAt vs k = some z ∧ RelV v z := RelO.some_of (by rw [← l]; exact rel.val k)
  exact ⟨dd.typeIs, wpAny_getItem_of (knd := leafKind X.prog X.w) (kL_is ry) dd.mapOf hw ⟨v, H2, I2.tok _, rw', q2⟩⟩
theorem frzL {d : Addr} {o : Obj} (I : Inv X pins σ H s) (h : H d = some (.frz o (LdO X.prog X.w d kvs))) : (d == sysModules) = false ∧ s.heap.get? d = some o ∧ o.ExactDict ∧
    ∃ (es : Array DictEntry) (ep : Nat) (vs : List (Leaf × Value)), o.data = .dict es ep ∧ es.size = kvs.length ∧ KV kvs vs ∧ s.heap.DictAt (leafKind X.prog X.w) d vs ep := by
  rcases I.hok d _ h with ⟨there, ⟨far, _, vs, rel, o2, es, ep, there2, exact_, dict, keys, pairs, nod⟩, _⟩
  have same : o = o2 := Option.some.inj (there.symm.trans there2)
  subst same
  have m1 := Pairs.length pairs
  have m2 : kvs.length = vs.length := Paired.length rel
  have m3 : es.toList.length = es.size := Array.length_toList
  exact ⟨far, there, exact_, es, ep, vs, dict, by omega, rel, o, es, there, exact_, dict, keys, pairs, nod⟩
def ItL (P : Program) (w : World) (d : Addr) (o : Obj) (kvs : List (Leaf × V)) : It :=
  ⟨fun i H => H d = some (.frz o (LdO P w d kvs)) ∧ i < kvs.length, fun i H x H' => H' = H ∧ ∃ k v, kvs[i]? = some (k, v) ∧ KeyV k x, fun i H => H d = some (.frz o (LdO P w d kvs)) ∧ kvs.length ≤ i⟩
/-- a turn of the walk over the keys -/
theorem turn_itemL {X : Cx} {d it : Addr} {o : Obj} {kvs : List (Leaf × V)} {es : Array DictEntry} {ep i : Nat} {pins : List (Addr × Obj)} {σ : L2.St} {H : Hp} {s : Shared} (I : Inv X pins σ H s) (dict : o.data = .dict es ep) (at_ : H d = some (.frz o (LdO X.prog X.w d kvs))) (more : i < kvs.length) (A : Around) (E : Value → Shared → Prop) (Q : Option Value → Shared → Prop) (st : s.heap.IsKeyIter it d i kvs.length ep)
    (then_ : ∀ (key : Value) (h : Heap) (k : Leaf) (v : V) (x : V), kvs[i]? = some (k, v) → KeyV k x → RelV x key → h.IsKeyIter it d (i + 1) kvs.length ep → Heap.SameBut it s.heap h → Q (some key) { s with heap := h }) : wpAny (model X.prog X.w) A (pyNext (.ref it)) Q E s := by
  rcases frzL I at_ with ⟨_, _, _, es2, ep2, vs, dict2, _, rel, there⟩
  rcases dict_ep dict dict2 with ⟨rfl, rfl⟩
  have m : kvs.length = vs.length := Paired.length rel
  have here : kvs[i]? = some kvs[i] := List.getElem?_eq_getElem more
  rcases kv_get (k := kvs[i].1) (v := kvs[i].2) rel here with ⟨u, hu, _⟩
  rw [m] at st
  apply wpAny_pyNext_dict_item st there hu
  intro key h is_ st' same
  rcases keyV_of (show Leaf.isOf kvs[i].1 key = true from is_) with ⟨x, kx, rx⟩
  exact then_ key h _ _ x here kx rx (by rw [m]; exact st') same
theorem turn_keysL {P : Program} {w : World} {K : PySem.W.Frag} {tg : Expr} {d : Addr} {o : Obj} {es : Array DictEntry} {ep : Nat} (it : Addr) (dict : o.data = .dict es ep) : Turn P w K tg (ItL P w d o kvs) [it] it (fun i h => h.IsKeyIter it d i kvs.length ep) where
  mem := List.mem_singleton.mpr rfl
  obj := by
    intro i h st b hb
    have e : b = it := List.mem_singleton.mp hb
    subst e
    rcases st with ⟨oi, there, _, fields⟩
    exact ⟨oi, there, fun v z => by rw [fields] at z; cases z⟩
  keep := fun i h h' st stays => st.at fun oi z => stays it (List.mem_singleton.mpr rfl) oi z
  item := by
    intro X hP hw hK hc i pins s σ H E I far st go
    subst hP hw hK
    rcases far it (List.mem_singleton.mpr rfl) with ⟨f0, f1, _, f3, f4, f5⟩
    apply turn_itemL I dict go.1 go.2 _ _ _ st
    intro key h k v x here kx rx st' same
    rcases id st' with ⟨oi, there, cls, fields⟩
    have J : Inv X pins σ H { s with heap := h } := I.turned (t' := s.toks) (fun b ob hb z => (same.2 b hb).trans z) f0 f1 f3 f4 f5
    exact ⟨key, rfl, go_of (s := { s with heap := h }) there cls fields (by decide) ⟨x, H, J, rx, ⟨rfl, k, v, here, kx⟩, st', fun b hb => (far b hb).1⟩⟩
  done := by
    intro X hP hw hK hc i pins s σ H E I far st stop
    subst hP hw hK
    rcases far it (List.mem_singleton.mpr rfl) with ⟨f0, f1, _, f3, f4, f5⟩
    rcases frzL I stop.1 with ⟨_, there, _, es2, ep2, _, dict2, size, _, _⟩
    rcases dict_ep dict dict2 with ⟨rfl, rfl⟩
    apply next_key_end (I.ok.hd hc) st there dict2 size stop.2
    intro h same
    exact ⟨rfl, I.turned (t' := s.toks) (fun b ob hb z => same b ob hb z) f0 f1 f3 f4 f5⟩
  self := by
    intro A i s Q E st told
    exact wpAny_pyIter_keyiter st told
def iKeysL (P : Program) (w : World) (td : TE) : TI := fun σ H R => td σ H fun x H1 => ∃ d o kvs, x = .ref d ∧ H1 d = some (.frz o (LdO P w d kvs)) ∧ R (ItL P w d o kvs) H1
theorem pi_keysL {tg e : Expr} {td : TE} (he : PE X e td) : PI X tg e (iKeysL X.prog X.w td) := by
  constructor
  intro pins s σ H R I told
  apply thn (he.run pins s σ H _ I told)
  rintro u s1 ⟨x, H1, J, rx, d, o, kvs, ex, at_, wish⟩
  rw [ex] at rx
  have eu : u = Value.ref d := rx
  rcases frzL J at_ with ⟨far, there, exact_, es, ep, vs, dict, size, _, _⟩
  rw [eu]
  apply iter_keys far there exact_ dict
  apply pi_one (tk := s1.toks) J _ (turn_keysL _ dict) _ wish
  exact ⟨_, Heap.get?_push_size _ rfl, rfl, by rw [size] <;> rfl⟩
theorem walk_keysL {P : Program} {w : World} {d : Addr} {o : Obj} : Walk (ItL P w d o kvs) kvs.length (fun H => H d = some (.frz o (LdO P w d kvs))) (fun i H x H' => H' = H ∧ ∃ k v, kvs[i]? = some (k, v) ∧ KeyV k x) :=
  ⟨fun _ _ more q => And.intro q more, fun _ q => And.intro q (Nat.le_refl _), fun _ _ _ _ _ _ y => y⟩
end
end HX

set_option maxRecDepth 100000
set_option maxHeartbeats 3000000
namespace HX
open PySem PySem.Spec PyProof.Rows L2
theorem fnOr {P : Program} {w : World} {K : PySem.W.Frag} {mg : Str → Option Value} {base : Heap} {CX : CXT} {k : Nat} {f : Addr} {fd : FuncData} {ps : List Str} {sp sp' : Sp} (F : FnOk P w K mg base CX k f fd ps sp) (G : FnOk P w K mg base CX k f fd ps sp') :
    FnOk P w K mg base CX k f fd ps (fun vs H Q E => sp vs H Q E ∨ sp' vs H Q E) :=
  ⟨fun vs H Q E h => h.elim (F.len vs H Q E) (G.len vs H Q E), fun A outer s H args us vs Q E hr h1 h2 h3 h => h.elim (F.run A outer s H args us vs Q E hr h1 h2 h3) (G.run A outer s H args us vs Q E hr h1 h2 h3)⟩
section
variable {P : Program} {w : World} {K : PySem.W.Frag} {σ : L2.St} {H : Hp} {ta tb : TE} {a : Addr} {kvs : List (Leaf × V)}
theorem ev_isiL (ha : Evl.Ev ta σ H (.ref a)) (hb : Evl.Ev tb σ H (.ty "dict")) (h : H a = some (LdO P w a kvs)) : Evl.Ev (tCB (fun xs H Q => ∃ a kvs, xs = [.ref a, .ty "dict"] ∧ Rd H a (LdO P w a kvs) ∧ Q (.bl true) H) (tCons ta (tCons tb tNil))) σ H (.bl true) := fun H1 e Q q =>
  ha H1 e _ fun H2 e2 => hb H2 (e.trans e2) _ fun H3 e3 => ⟨a, kvs, rfl, .inl (((e.trans e2).trans e3) _ _ h), q H3 (e2.trans e3)⟩
theorem ev_lenL (ha : Evl.Ev ta σ H (.ref a)) (h : H a = some (LdO P w a kvs)) : Evl.Ev (tCB (fun xs H Q => ∃ a kvs, xs = [V.ref a] ∧ Rd H a (LdO P w a kvs) ∧ Q (.int (List.length kvs : Nat)) H) (tCons ta tNil)) σ H (.int (kvs.length : Nat)) := fun H1 e Q q =>
  ha H1 e _ fun H2 e2 => ⟨a, kvs, rfl, .inl ((e.trans e2) _ _ h), q H2 e2⟩
theorem ev_lget {y : Leaf} {v : V} {o : Obj} (ha : Evl.Ev ta σ H (.ref a)) (hb : Evl.Ev tb σ H (kL y)) (h : H a = some (.frz o (LdO P w a kvs))) (hv : valV kvs y = some v) : Evl.Ev (tLGet P w ta tb) σ H v := fun H1 e Q q =>
  ha H1 e _ fun H2 e2 => hb H2 (e.trans e2) _ fun H3 e3 => ⟨a, kvs, y, v, rfl, .inr ⟨o, ((e.trans e2).trans e3) _ _ h⟩, rfl, hv, q H3 (e2.trans e3)⟩
end
end HX
namespace K04
open PySem PySem.Spec PyProof.Rows L2 HX
def zz : HX.D := .lst [.int 0, .int 0]
def oddK (b c : Addr) : List (Leaf × V) := [(.text "a", .ref b), (.none, .ref c)]
/-- {"a": [0, 0], None: [0, 0]} -/
def OddAt (P : Program) (w : World) (H : Hp) (v : V) : Prop := ∃ a b c, v = .ref a ∧ H a = some (LdO P w a (oddK b c)) ∧ Dq H (.ref b) zz
theorem OddAt.same {P : Program} {w : World} {H H' : Hp} {v : V} (o : OddAt P w H v) (s : Same H H') : OddAt P w H' v := by
  obtain ⟨a, b, c, e, h1, h2⟩ := o
  exact ⟨a, b, c, e, s _ _ h1, h2.same s⟩
section
variable {P : Program} {w : World} {K : PySem.W.Frag} {mg : Str → Option Value} {base : Heap}
def spKiO (P : Program) (w : World) : Sp := fun vs H Q _ => ∃ v, vs = [v, .int (2 : Nat)] ∧ OddAt P w H v ∧ ∀ H', Same H H' → Q (.bl false) H'
theorem ok_kiO {f fI fN fS : Addr} {fd fdI fdN fdS : FuncData} {k : Nat} (F : L2.Fun K "are_kinds" "are_kinds" sKi f fd) (T : Bt mg) (cI : CdW K mg fI fdI) (cN : Cd K mg "is_name" sIsName ["value"] fN fdN)
    (cS : Cd K mg "are_services" sSe ["value", "modes"] fS fdS) (mC : ∃ t, mg "MOST_COST" = some (.int 4 t)) (mM : ∃ t, mg "MOST_KINDS" = some (.int 4 t)) : FnOk P w K mg base CX0 (k + 4) f fd ["value", "modes"] (spKiO P w) := by
  have GN : FnOk P w K mg base CX0 (k + 3) fN fdN ["value"] spIsName := ok_isName (k := k + 2) cN.F T
  have GS : FnOk P w K mg base CX0 (k + 3) fS fdS ["value", "modes"] spSe := ok_se cS.F T cI mC
  obtain ⟨tk, mM⟩ := mM
  refine F.ok scKi (fun vs H Q E h => ?_) (fun cdv A outer s H vs Q E hr h => ?_)
  · obtain ⟨v, rfl, _⟩ := h
    rfl
  · obtain ⟨v, rfl, ho, q⟩ := h
    obtain ⟨a, b, c, rfl, ha, hb⟩ := ho
    refine ⟨_, pss_cons (ps_if (PW.pt (pw_or (pt_not (pt_val (pe_callB isi_ld (by rfl) T.isi (by decide +kernel) (pa_cons (pv 0) (pa_cons (pe_bltn (v := .ty "dict") (by rfl) T.dict (by decide +kernel) rfl) pa_nil)))))
          (pw_or1 (pt_not (pt_chain op_le op_le pe_int (pe_callB len_ld (by rfl) T.len PySem.boot_len (pa_cons (pv 0) pa_nil)) (pe_glob (v := .int 4) rfl mM ⟨_, rfl⟩)))))) (pss_one (ps_ret pe_bl)) pss_nil)
        (pss_one (ps_ret (pe_callB (cr_all rfl) (by rfl) T.all (by decide +kernel) (pa_cons (pe_lock
          (pe_lc (own := [("name", 2)]) (g := gName 2) (tt := tYes) rfl scKi.nd (pi_keysL (pv 0)) (blkOk_by (own := [("name", 2)]) (N := ["value", "modes", "name"]) (sc := defScope sKi) (by decide +kernel)) (fun _ _ _ _ _ => pg_name (i := 2) scKi.nd rfl (Or.inl rfl)) (fun _ _ _ _ _ => pts_nil)
            (fun _ _ _ _ _ => pe_and (pe_call GN hr (by rfl) cN.g cN.F.kp cN.b .nil pass0 (pa_cons (pv 2) pa_nil))
              (pe_one (pe_call GS hr (by rfl) cS.g cS.F.kp cS.b .nil pass0 (pa_cons (pe_lget P w (pv 0) (pv 2) (fun _ _ => rfl)) (pa_cons (pv 1) pa_nil))))))) pa_nil)))), ?_⟩
    refine Evl.s_if (b := false) (Evl.et_is (Evl.et_or (a := false) (b := false)
          (Evl.et_not (a := true) (Evl.et_B (ev_isiL (P := P) (w := w) (Evl.ev_var rfl) Evl.ev_c ha)))
          (fun _ => Evl.et_is (Evl.et_not (Evl.et_test (ev_chain Evl.ev_c (ev_lenL (P := P) (w := w) (Evl.ev_var rfl) ha) Evl.rv_I0 (fun _ => Evl.ev_c) (fun _ => Evl.rv_I0)))) (by rfl))) rfl) (fun c _ _ => nomatch c) (fun _ H1 e1 => ?_)
    dsimp only [tNext]
    refine Evl.s_ret (v := .bl false) (Evl.ev_is (ev_all (bs := [true, false]) (el_lock (e1 _ _ ha) True.intro fun od => ?_)) rfl) (fun H2 e2 => q H2 (Same.trans e1 e2))
    refine el_is (el_lcW (walk_keysL (P := P) (w := w) (d := a) (o := od) (kvs := oddK b c)) (fun _ => true) (fun i => V.bl (decide (i = 0))) (fun H2 e2 R r => ⟨_, rfl, a, od, oddK b c, rfl, e2 _ _ upd_same, r H2 (Same.refl H2)⟩) (fun H2 e2 => e2 _ _ upd_same) (fun i H2 y H3 h => h.1) (by show 2 ≤ 40000; decide) (fun _ => rfl) (fun i y H2 e2 hi h => et_yes) (fun i y H2 e2 hi h _ => ?_)) (by rw [given_all]; rfl)
    obtain ⟨_, k0, v0, hi0, hk0⟩ := h
    have hg2 : H2 a = some (.frz od (LdO P w a (oddK b c))) := e2 _ _ upd_same
    match i, hi0 with
    | 0, hi0 =>
      cases hi0
      have ey : y = .str "a" := hk0
      subst ey
      have hb2 : Dq H2 (.ref b) zz := by
        cases hb with
        | lst h1 h2 =>
          cases h2 with
          | cons r1 h2 =>
            cases r1
            cases h2 with
            | cons r2 h2 =>
              cases r2
              cases h2
              have nb : b ≠ a := fun z => by
                rw [z, ha] at h1
                cases h1
              exact .lst (e2 _ _ (by rw [upd_ne nb]; exact e1 _ _ h1)) (.cons (.int 0) (.cons (.int 0) .nil))
      refine Evl.ev_is (Evl.ev_andV (a := true) (b := true) (Evl.ev_call (vs := [.str "a"]) (Evl.ea_cons (Evl.ev_var rfl) Evl.ea_nil) (fun H3 e3 Q3 q3 E3 => ⟨.str "a", .str "a", rfl, .str _ (by decide +kernel), fun H4 e4 => ?_⟩)) (fun _ => ?_)) rfl
      · have z : isNameD (.str "a") = true := by decide +kernel
        rw [z]
        exact q3 H4 e4
      · refine Evl.ev_call (vs := [.ref b, .int (2 : Nat)]) (Evl.ea_cons (ev_lget (y := .text "a") (Evl.ev_var rfl) (Evl.ev_var rfl) hg2 (valV_pos rfl)) (Evl.ea_cons (Evl.ev_var rfl) Evl.ea_nil)) (fun H3 e3 Q3 q3 E3 => ⟨.ref b, zz, 2, rfl, hb2.same e3, by decide, fun H4 e4 => ?_⟩)
        have z : areSe 2 zz = true := by decide +kernel
        rw [z]
        exact q3 H4 e4
    | 1, hi0 =>
      cases hi0
      have ey : y = .non := hk0
      subst ey
      refine Evl.ev_is (Evl.ev_andV (a := false) (b := false) (Evl.ev_call (vs := [.non]) (Evl.ea_cons (Evl.ev_var rfl) Evl.ea_nil) (fun H3 e3 Q3 q3 E3 => ⟨.non, .non, rfl, .non, fun H4 e4 => q3 H4 e4⟩)) (fun z => nomatch z)) rfl
    | i + 2, hi0 => cases hi0
end
end K04

set_option maxRecDepth 100000
set_option maxHeartbeats 3000000
namespace K04
open PySem PySem.Spec PyProof.Rows L2 HX
section
variable {P : Program} {w : World} {K : PySem.W.Frag} {mg : Str → Option Value} {base : Heap}
def spInitO (P : Program) (w : World) (C CK : Addr) : Sp := fun vs H Q E => ∃ (x dx : Addr) (v1 v2 : V) (l : List HX.D), vs = [.ref x, v1, v2] ∧ Dq H v1 (.lst l) ∧ areSw (.lst l) = true ∧ l.length = 2 ∧ OddAt P w H v2 ∧ ∀ H', Same H H' → E (.ref CK) none H'
theorem ok_initO {f C CS CK fI fN fW fF fK fS fA fY : Addr} {fd dI dN dW dF dK dS dA dY : FuncData} {k : Nat} (F : L2.Fun K "__init__" "System.__init__" sInit f fd) (T : Bt mg) (S : Sy K mg fI fN fW fF fK fS fA fY dI dN dW dF dK dS dA dY) (c : SysC K mg C) (eS : ErrC K mg "BadSwitches" CS) (eK : ErrC K mg "BadKinds" CK) :
    FnOk P w K mg base (L2.CX P w) (k + 5) f fd ["self", "switches", "kinds"] (spInitO P w C CK) := by
  have GW : FnOk P w K mg base CX0 (k + 4) fW dW ["value"] spSw := ok_sw S.cW.F T S.cI S.cF S.mC S.mM
  have GK : FnOk P w K mg base CX0 (k + 4) fK dK ["value", "modes"] (spKiO P w) := ok_kiO S.cK.F T S.cI S.cN S.cS S.mC S.mK
  refine F.okX scInit (fun vs H Q E h => ?_) (fun cdv A outer s H vs Q E hr h => ?_)
  · obtain ⟨x, dx, v1, v2, l, rfl, _⟩ := h
    rfl
  · obtain ⟨x, dx, v1, v2, l1, rfl, hd1, cW, hl2, ho2, kK⟩ := h
    refine ⟨_, pss_cons (ps_if (pt_not (pt_val (pe_call GW hr (by rfl) S.cW.g S.cW.F.kp S.cW.b .nil pass0 (pa_cons (pv 1) pa_nil)))) (pss_one (ps_raise rfl (takes_of rfl rfl rfl rfl) (pmk_own0 PySem.F.excBase_ValueError eS.ex eS.g eS.kp (raises_own eS.b eS.t) (by rfl)))) pss_nil)
      (pss_cons (ps_if (pt_not (pt_val (pe_call GK hr (by rfl) S.cK.g S.cK.F.kp S.cK.b .nil pass0 (pa_cons (pv 2) (pa_cons (pe_callB (lenK K) (by rfl) T.len PySem.boot_len (pa_cons (pv 1) pa_nil)) pa_nil))))) (pss_one (ps_raise rfl (takes_of rfl rfl rfl rfl) (pmk_own0 PySem.F.excBase_ValueError eK.ex eK.g eK.kp (raises_own eK.b eK.t) (by rfl)))) pss_nil)
      pss_never), ?_⟩
    obtain ⟨a1, xs1, rfl, ha1, hq1⟩ := hd1.lst_inv
    have hlen1 := hq1.length
    refine Evl.s_if (b := !areSw (.lst l1)) (Evl.et_not (Evl.et_B (Evl.ev_call (vs := [.ref a1]) (Evl.ea_cons (Evl.ev_var rfl) Evl.ea_nil) (fun H1 e1 Q1 q1 E1 => ⟨.ref a1, .lst l1, rfl, hd1.same e1, q1⟩)))) (fun c0 H1 e1 => ?_) (fun c0 H1 e1 => ?_)
    · rw [cW] at c0
      cases c0
    dsimp only [tNext]
    refine Evl.s_if (b := true) (Evl.et_is (Evl.et_not (Evl.et_B (b := false) (Evl.ev_call (vs := [v2, .int (xs1.length : Int)]) (Evl.ea_cons (Evl.ev_var rfl) (Evl.ea_cons (ev_lenK (Evl.ev_var rfl) (.inl (Evl.sq_of (e1 _ _ ha1)))) Evl.ea_nil)) (fun H2 e2 Q2 q2 E2 => ⟨v2, by rw [hlen1, hl2]; rfl, ho2.same (e1.trans e2), q2⟩)))) rfl) (fun c2 H2 e2 => ?_) (fun c2 _ _ => nomatch c2)
    exact kK H2 (Same.trans e1 e2)
def spSaidO (P : Program) (w : World) : Sp := fun vs H Q _ => ∃ v1 v2 l, vs = [v1, v2] ∧ Dq H v1 (.lst l) ∧ areSw (.lst l) = true ∧ l.length = 2 ∧ OddAt P w H v2 ∧ ∀ H', Same H H' → Q (.str "k") H'
theorem ok_saidO {f fN C CS CK fI fNm fW fF fK fS fA fY : Addr} {fd fdN dI dN dW dF dK dS dA dY : FuncData} {k : Nat} (F : L2.Fun K "_law_said" "_law_said" sSaid f fd) (T : Bt mg) (S : Sy K mg fI fNm fW fF fK fS fA fY dI dN dW dF dK dS dA dY) (c : SysC K mg C) (eS : ErrC K mg "BadSwitches" CS) (eK : ErrC K mg "BadKinds" CK) (em : ErrM K CS CK)
    (M : Mk K C fN) (FN : L2.Fun K "__init__" "System.__init__" sInit fN fdN) (bN : Binds K fdN ["self", "switches", "kinds"] []) : FnOk P w K mg base CX0 (k + 7) f fd ["switches", "kinds"] (spSaidO P w) := by
  have GN : FnOk P w K mg base (L2.CX P w) (k + 5) fN fdN ["self", "switches", "kinds"] (spInitO P w C CK) := ok_initO FN T S c eS eK
  refine F.ok scSaid (fun vs H Q E h => ?_) (fun cdv A outer s H vs Q E hr h => ?_)
  · obtain ⟨v1, v2, l, rfl, _⟩ := h
    rfl
  · obtain ⟨v1, v2, l, rfl, hd1, cW, hl, ho, q⟩ := h
    refine ⟨_, pss_cons (ps_set (i := 2) scSaid.nd rfl (Or.inl rfl) pe_str)
      (pss_cons (ps_try_manyAs (i := 3) (n := "error") (tb := fun W => tDrop (tMakeS C (spInitO P w C CK) (WE W) (tCons (tVar 0) (tCons (tVar 1) tNil))))
          (l := [(.ref CS, fun _ _ _ => tAsg (tC (.str "s")) (gName 2)), (.ref CK, fun _ _ _ => tAsg (tC (.str "k")) (gName 2))]) (Wout := fun _ _ _ _ => False) rfl rfl scSaid.nd rfl rfl takes0
          (fun W pn xe tk _ => pss_one (ps_expr (by exact (pe_makeS M GN hr (by rfl) c.g bN (fun σ => passAt tk σ) (pa_cons (pv 0) (pa_cons (pv 1) pa_nil))))))
          (.cons ⟨rfl, by decide, .inl eS.g⟩ (fun a oe cls d pn hz hf => pss_one (ps_set (i := 2) scSaid.nd rfl (Or.inl rfl) pe_str))
            (.cons ⟨rfl, by decide, .inl eK.g⟩ (fun a oe cls d pn hz hf => pss_one (ps_set (i := 2) scSaid.nd rfl (Or.inl rfl) pe_str)) .nil)))
      (pss_one (ps_ret (pv 2)))), ?_⟩
    refine ⟨_, rfl, _, rfl, fun x dx hx hdx hne => ?_⟩
    have sn : Same H (upd (upd H dx (.own x)) x (.ins C dx [])) := same_new hx hdx
    refine ⟨x, dx, v1, v2, l, rfl, hd1.same sn, cW, hl, ho.same sn, fun H' s' => ?_⟩
    have sz := Same.trans sn s'
    exact ⟨false, em.ks, (fun z => nomatch z), fun _ => ⟨true, em.kk, fun _ a na => ⟨_, rfl, q _ sz⟩, (fun z => nomatch z)⟩⟩
def spSaid2 (P : Program) (w : World) : Sp := fun vs H Q E => spSaid vs H Q E ∨ spSaidO P w vs H Q E
theorem ok_said2 {f fN C CS CK fI fNm fW fF fK fS fA fY : Addr} {fd fdN dI dN dW dF dK dS dA dY : FuncData} {k : Nat} (F : L2.Fun K "_law_said" "_law_said" sSaid f fd) (T : Bt mg) (S : Sy K mg fI fNm fW fF fK fS fA fY dI dN dW dF dK dS dA dY) (c : SysC K mg C) (eS : ErrC K mg "BadSwitches" CS) (eK : ErrC K mg "BadKinds" CK) (em : ErrM K CS CK)
    (M : Mk K C fN) (FN : L2.Fun K "__init__" "System.__init__" sInit fN fdN) (bN : Binds K fdN ["self", "switches", "kinds"] []) : FnOk P w K mg base CX0 (k + 7) f fd ["switches", "kinds"] (spSaid2 P w) :=
  fnOr (ok_said F T S c eS eK em M FN bN) (ok_saidO F T S c eS eK em M FN bN)
end
end K04

set_option maxRecDepth 100000
set_option maxHeartbeats 3000000
namespace HX
open PySem PySem.Spec PyProof.Rows L2
theorem dictPK {X : Cx} (K : PySem.W.Frag) (hc : X.calm = true) (h : X.K = K := by rfl) : CallR X (.type "dict") (rDictP K) := by subst h; exact call_dictP hc
section
variable {A : Addr → Bool} {K : PySem.W.Frag} {σ : L2.St} {H : Hp} {te ta tb : TE} {tr tas : TA} {d : D} {ds : List D}
theorem eq_mulS {z : Str} {j : Nat} {m : Int} {n : Nat} (hv : σ[j]? = some (some (.int m))) (e : m = (n : Int)) (h1 : 1 ≤ n) (h2 : n ≤ 20) (h3 : 1 ≤ z.length) (h4 : z.length ≤ 20) (h5 : (repS z n).length ≤ 1000) : EvQ A (tOp rMulS (tC (.str z)) (tVar j)) σ H (.str (repS z n)) := fun H1 e1 Q q =>
  ⟨_, hv, z, n, rfl, by rw [e], h1, h2, h3, h4, h5, q _ H1 (Same.refl _) (.str _ h5)⟩
end
end HX
namespace K04
open PySem PySem.Spec PyProof.Rows L2 HX
abbrev sKis : Stmt := topS 27
theorem scKis : FnScope ["rows", "four", "five", "k"] [] (defScope sKis) := ⟨rfl, rfl, rfl, by decide +kernel, rfl, by decide +kernel, by decide +kernel⟩
def tK0 : List HX.D := [(D.tup [(D.dic [((.inr "a"), (D.lst [(D.int 0), (D.int 4)]))]), (D.str "n")]), (D.tup [(D.dic [((.inr "a"), (D.lst [(D.int 0), (D.int 5)]))]), (D.str "k")]), (D.tup [(D.dic [((.inr "a"), (D.lst [(D.int (-1)), (D.int 0)]))]), (D.str "k")]), (D.tup [(D.dic [((.inr "a"), (D.lst [D.non, (D.int 0)]))]), (D.str "n")])]
def tK1 : List HX.D := [(D.tup [(D.dic [((.inr "a"), (D.lst [D.non, D.non]))]), (D.str "k")]), (D.tup [(D.dic [((.inr "b"), (D.lst [(D.int 1), (D.int 1)])), ((.inr "a"), (D.lst [D.non, D.non]))]), (D.str "k")]), (D.tup [(D.dic [((.inr "a"), (D.lst [(D.bl true), (D.int 0)]))]), (D.str "k")])]
def tK2 : List HX.D := [(D.tup [(D.dic [((.inr "a"), (D.lst [(D.int 0), (D.bl false)]))]), (D.str "k")]), (D.tup [(D.dic [((.inr "a"), (D.lst [(D.int 0)]))]), (D.str "k")]), (D.tup [(D.dic [((.inr "a"), (D.lst [(D.int 0), (D.int 0), (D.int 0)]))]), (D.str "k")]), (D.tup [(D.dic [((.inr "a"), (D.tup [(D.int 0), (D.int 0)]))]), (D.str "k")])]
def tK3 : List HX.D := [(D.tup [(D.dic []), (D.str "k")]), (D.tup [D.non, (D.str "k")]), (D.tup [(D.lst []), (D.str "k")]), (D.tup [(D.lst [(D.tup [(D.str "a"), (D.lst [(D.int 0), (D.int 0)])])]), (D.str "k")]), (D.tup [(D.dic [((.inr ""), (D.lst [(D.int 0), (D.int 0)]))]), (D.str "k")])]
def tK4 : List HX.D := [(D.tup [(D.dic [((.inr "abcdefgh"), (D.lst [(D.int 0), (D.int 0)]))]), (D.str "n")]), (D.tup [(D.dic [((.inr "abcdefghi"), (D.lst [(D.int 0), (D.int 0)]))]), (D.str "k")]), (D.tup [(D.dic [((.inr "a"), (D.lst [(D.int 0), (D.int 0)])), ((.inr "A"), (D.lst [(D.int 0), (D.int 0)]))]), (D.str "k")])]
def tK5 : List HX.D := [(D.tup [(D.dic [((.inr "a b"), (D.lst [(D.int 0), (D.int 0)]))]), (D.str "k")]), (D.tup [(D.dic [((.inr "a1"), (D.lst [(D.int 0), (D.int 0)]))]), (D.str "k")]), (D.tup [(D.dic [((.inl 0), (D.lst [(D.int 0), (D.int 0)]))]), (D.str "k")])]
/-- {"a" * 1: [0, 0], .., "a" * n: [0, 0]} -/
def kdsD (n : Nat) : List (Key × HX.D) := (List.range n).map fun i => (Sum.inr (repS "a" (i + 1)), zz)
def tblA : List HX.D := ((((tK0 ++ tK1) ++ tK2) ++ tK3) ++ tK4) ++ tK5
def tblB : List HX.D := [(D.tup [(D.dic (kdsD 4)), (D.str "n")]), (D.tup [(D.dic (kdsD 5)), (D.str "k")]), (D.tup [(D.dic [((.inr "a"), (D.lst [(D.int 0), (D.int 0)])), ((.inr "b"), D.non)]), (D.str "k")]), (D.tup [(D.dic [((.inr "a"), (D.lst [(D.int 0), (D.str "0")]))]), (D.str "k")])]
def OddRow (P : Program) (w : World) (H : Hp) (v : V) : Prop := ∃ t x, v = .ref t ∧ H t = some (.tup [x, .str "k"]) ∧ OddAt P w H x
theorem OddRow.same {P : Program} {w : World} {H H' : Hp} {v : V} (o : OddRow P w H v) (s : Same H H') : OddRow P w H' v := by
  obtain ⟨t, x, e, h1, h2⟩ := o
  exact ⟨t, x, e, s _ _ h1, h2.same s⟩
section
variable {P : Program} {w : World} {K : PySem.W.Frag} {mg : Str → Option Value} {base : Heap}
def EvR (A : Addr → Bool) (te : TE) (σ : L2.St) (H : Hp) (R : Hp → V → Prop) : Prop := ∀ H1, Same H H1 → ∀ Q : VK, (∀ v H2, Same H1 H2 → R (mask A H2) v → Q v H2) → te σ H1 Q
theorem er_odd {A : Addr → Bool} {σ : L2.St} {H : Hp} (t : Tr A H) : EvR A (tTup (tCons (tDispL P w [(tC (.str "a"), tLst (tCons (tC (.int 0)) (tCons (tC (.int 0)) tNil))), (tC .non, tLst (tCons (tC (.int 0)) (tCons (tC (.int 0)) tNil)))]) (tCons (tC (.str "k")) tNil))) σ H (OddRow P w) := by
  intro H1 e1 Q q p hp
  have t1 := t.same e1
  have a3 : A p = false := t1.fresh hp
  have s2 : Same H1 (upd H1 p (LdO P w p [])) := Evl.Ex.new hp
  have tp : Tr (plusA A p) (upd H1 p (LdO P w p [])) := (t1.same s2).plus upd_same
  have E1 : EvQ (plusA A p) (tLst (tCons (tC (.int 0)) (tCons (tC (.int 0)) tNil))) σ (upd H1 p (LdO P w p [])) zz := eq_lst tp (eqa_cons eq_int' (eqa_cons eq_int' eqa_nil)) (by decide)
  dsimp only [tPairs, tC]
  refine E1 _ (Same.refl _) _ fun vb H2 e2 d2 => ?_
  refine E1 H2 e2 _ fun vc H3 e3 d3 => ?_
  have e23 := Same.trans e2 e3
  refine ⟨e23 _ _ upd_same, [(.text "a", vb), (.none, vc)], rfl, by show 2 ≤ 1000; decide, ?_⟩
  obtain ⟨b, xb, rfl, -, -⟩ := d2.lst_inv
  obtain ⟨c, xc, rfl, -, -⟩ := d3.lst_inv
  have dm : Dq (mask A (upd H3 p (LdO P w p (oddK b c)))) (.ref b) zz := (d2.same (mask_same e3)).same mask_upd
  have sz : Same H1 (upd H3 p (LdO P w p (oddK b c))) := fun x o hb => by
    rw [upd_ne (ne_of_none hb hp)]
    exact e23 _ _ (s2 _ _ hb)
  have he : mergeL [] [(Leaf.text "a", V.ref b), (Leaf.none, V.ref c)] = oddK b c := by rfl
  rw [he]
  have hO : OddAt P w (mask A (upd H3 p (LdO P w p (oddK b c)))) (.ref p) := ⟨p, b, c, rfl, by rw [mask_at a3]; exact upd_same, dm⟩
  generalize upd H3 p (LdO P w p (oddK b c)) = H4 at hO sz ⊢
  refine ⟨Evl.sz_of (by show 2 ≤ 100000; decide), fun r hr => ?_⟩
  have s3 : Same H4 (upd H4 r (.tup [V.ref p, .str "k"])) := Evl.Ex.new hr
  have ar : A r = false := (t1.same sz).fresh hr
  exact q _ _ (Same.trans sz s3) ⟨r, .ref p, rfl, by rw [mask_at ar]; exact upd_same, hO.same (mask_same s3)⟩
/-- rows.append(e), e of another kind -/
theorem s_appR {σ : L2.St} {H : Hp} {te ta : TE} {ds : List HX.D} {D : Ends} {R : Hp → V → Prop} {p : Addr} {xs : List V} (Rs : ∀ H H' v, R H v → Same H H' → R H' v) (hl : H p = some (.lst xs)) (ha : Evl.Ev ta σ H (.ref p)) (h : EvR (only p) te σ H R) (hx : DqAll (mask (only p) H) xs ds) (hz : ds.length < 1000)
    (k : ∀ v H1, (∀ b o, b ≠ p → H b = some o → H1 b = some o) → H1 p = some (.lst (xs ++ [v])) → DqAll (mask (only p) H1) xs ds → R (mask (only p) H1) v → D.nx σ H1) :
    tDrop (tBM K "list" rAppend ta (tCons te tNil)) D σ H := ha H (Same.refl H) _ fun H1 e1 =>
  ⟨Or.inl ⟨rfl, xs, Evl.sq_of (e1 p _ hl)⟩, h H1 e1 _ fun v H2 e2 hv => ⟨p, xs, v, rfl, rfl, e2 p _ (e1 p _ hl), Evl.sz_lt (by rw [hx.length]; omega), by
    have e12 : Same H H2 := Same.trans e1 e2
    exact k v _ (fun b o hb e => by rw [upd_ne hb]; exact e12 _ _ e) upd_same ((hx.same (mask_same e12)).same mask_updP) (Rs _ _ _ hv mask_updP)⟩⟩
/-- return rows + [..] -/
theorem s_retCatO {σ : L2.St} {H : Hp} {te : TE} {bs : List HX.D} {D : Ends} {p : Addr} {zs : List V} (hv : σ[0]? = some (some (.ref p))) (hp : H p = some (.lst zs)) (hz : zs.length ≤ 1000) (hb : EvQ (only p) te σ H (.lst bs)) (hl : bs.length ≤ 1000)
    (k : ∀ r ys H1, Same H H1 → H1 r = some (.lst (zs ++ ys)) → DqAll H1 ys bs → D.rt (.ref r) H1) : tRet (tOp rCat (tVar 0) te) D σ H :=
  ⟨_, hv, hb H (Same.refl H) _ fun v H1 e1 d1 => by
    obtain ⟨b, ys, rfl, hb9, hy⟩ := d1.lst_inv
    have l2 := hy.length
    refine ⟨p, b, zs, ys, rfl, rfl, e1 _ _ hp, (mask_some hb9).1, Evl.sz_of (by omega), fun r hr => ?_⟩
    have s2 : Same H1 (upd H1 r (.lst (zs ++ ys))) := Evl.Ex.new hr
    exact k r ys _ (Same.trans e1 s2) upd_same (hy.same (Same.trans mask_un s2))⟩
theorem eq_kds {A : Addr → Bool} {σ : L2.St} {H : Hp} {j : Nat} {vs : List Nat} {n : Nat} (t : Tr A H) (hn : n ≤ 5) (hj : ∀ x, ((wipe σ vs).set j (some x))[j]? = some (some x)) (hw : ∀ x, wipe ((wipe σ vs).set j (some x)) vs = wipe σ vs) (nd : ((kdsD n).map (·.1)).Nodup) :
    EvQ A (tCB (rDictP K) (tCons (tLc (iRng2 (tCons (tC (.int 1)) (tCons (tC (.int (n + 1 : Nat))) tNil))) (gName j) tYes (tTup (tCons (tOp rMulS (tC (.str "a")) (tVar j)) (tCons (tLst (tCons (tC (.int 0)) (tCons (tC (.int 0)) tNil))) tNil))) vs) tNil)) σ H (.dic (kdsD n)) := by
  refine eq_dictP t nd (eq_is (eq_lcR (lo := 1) (n := n) (fun i => D.tup [.str (repS "a" (i + 1)), zz]) t (by omega) hw (fun H1 e1 R r => ⟨1, (n + 1 : Nat), rfl, ⟨by omega, by omega, by omega, by omega⟩, ?_⟩)
    (fun i A' H1 e t' hi => eq_tup t' (eqa_cons (eq_mulS (n := i + 1) (hj _) (by omega) (by omega) (by omega) (by decide +kernel) (by decide +kernel) ?_) (eqa_cons (eq_lst t' (eqa_cons eq_int' (eqa_cons eq_int' eqa_nil)) (by decide)) eqa_nil)) (by show 2 ≤ 1000; decide))) ?_)
  · have ez : (((n + 1 : Nat) : Int) - 1).toNat = n := by omega
    rw [ez]
    exact r H1 (Same.refl _)
  · have : i = 0 ∨ i = 1 ∨ i = 2 ∨ i = 3 ∨ i = 4 := by omega
    rcases this with rfl | rfl | rfl | rfl | rfl <;> decide +kernel
  · unfold kdsD
    rw [List.map_map]
    rfl
/-- the table: data, the odd row, data -/
def spTblK (P : Program) (w : World) : Sp := fun vs H Q _ => vs = [] ∧ ∀ a xs x ys H', Same H H' → H' a = some (.lst ((xs ++ [x]) ++ ys)) → DqAll H' xs tblA → OddRow P w H' x → DqAll H' ys tblB → Q (.ref a) H'
theorem ok_kis {f : Addr} {fd : FuncData} {k : Nat} (F : L2.Fun K "_law_kinds" "_law_kinds" sKis f fd) (T : Bt mg) : FnOk P w K mg base CX0 (k + 1) f fd [] (spTblK P w) := by
  refine F.ok scKis (fun vs H Q E h => ?_) (fun cdv A outer s H vs Q E hr h => ?_)
  · obtain ⟨rfl, _⟩ := h
    rfl
  · obtain ⟨rfl, q⟩ := h
    refine ⟨_, (pss_cons (ps_set (i := 0) scKis.nd rfl (Or.inl rfl) (pe_lst (pa_cons (pe_tup (pa_cons (pe_disp (pps_cons pe_str (pe_lst (pa_cons pe_int (pa_cons pe_int pa_nil))) pps_nil) (by rfl) (by rfl) (fun z => by cases z) (by decide)) (pa_cons pe_str pa_nil))) (pa_cons (pe_tup (pa_cons (pe_disp (pps_cons pe_str (pe_lst (pa_cons pe_int (pa_cons pe_int pa_nil))) pps_nil) (by rfl) (by rfl) (fun z => by cases z) (by decide)) (pa_cons pe_str pa_nil))) (pa_cons (pe_tup (pa_cons (pe_disp (pps_cons pe_str (pe_lst (pa_cons (pe_un un_neg pe_int) (pa_cons pe_int pa_nil))) pps_nil) (by rfl) (by rfl) (fun z => by cases z) (by decide)) (pa_cons pe_str pa_nil))) (pa_cons (pe_tup (pa_cons (pe_disp (pps_cons pe_str (pe_lst (pa_cons pe_non (pa_cons pe_int pa_nil))) pps_nil) (by rfl) (by rfl) (fun z => by cases z) (by decide)) (pa_cons pe_str pa_nil))) pa_nil))))))
      (pss_cons (ps_set (i := 0) scKis.nd rfl (Or.inl rfl) (pe_op op_cat (pv 0) (pe_lst (pa_cons (pe_tup (pa_cons (pe_disp (pps_cons pe_str (pe_lst (pa_cons pe_non (pa_cons pe_non pa_nil))) pps_nil) (by rfl) (by rfl) (fun z => by cases z) (by decide)) (pa_cons pe_str pa_nil))) (pa_cons (pe_tup (pa_cons (pe_disp (pps_cons pe_str (pe_lst (pa_cons pe_int (pa_cons pe_int pa_nil))) (pps_cons pe_str (pe_lst (pa_cons pe_non (pa_cons pe_non pa_nil))) pps_nil)) (by rfl) (by rfl) (fun z => by cases z) (by decide)) (pa_cons pe_str pa_nil))) (pa_cons (pe_tup (pa_cons (pe_disp (pps_cons pe_str (pe_lst (pa_cons pe_bl (pa_cons pe_int pa_nil))) pps_nil) (by rfl) (by rfl) (fun z => by cases z) (by decide)) (pa_cons pe_str pa_nil))) pa_nil))))))
      (pss_cons (ps_set (i := 0) scKis.nd rfl (Or.inl rfl) (pe_op op_cat (pv 0) (pe_lst (pa_cons (pe_tup (pa_cons (pe_disp (pps_cons pe_str (pe_lst (pa_cons pe_int (pa_cons pe_bl pa_nil))) pps_nil) (by rfl) (by rfl) (fun z => by cases z) (by decide)) (pa_cons pe_str pa_nil))) (pa_cons (pe_tup (pa_cons (pe_disp (pps_cons pe_str (pe_lst (pa_cons pe_int pa_nil)) pps_nil) (by rfl) (by rfl) (fun z => by cases z) (by decide)) (pa_cons pe_str pa_nil))) (pa_cons (pe_tup (pa_cons (pe_disp (pps_cons pe_str (pe_lst (pa_cons pe_int (pa_cons pe_int (pa_cons pe_int pa_nil)))) pps_nil) (by rfl) (by rfl) (fun z => by cases z) (by decide)) (pa_cons pe_str pa_nil))) (pa_cons (pe_tup (pa_cons (pe_disp (pps_cons pe_str (pe_tup (pa_cons pe_int (pa_cons pe_int pa_nil))) pps_nil) (by rfl) (by rfl) (fun z => by cases z) (by decide)) (pa_cons pe_str pa_nil))) pa_nil)))))))
      (pss_cons (ps_set (i := 0) scKis.nd rfl (Or.inl rfl) (pe_op op_cat (pv 0) (pe_lst (pa_cons (pe_tup (pa_cons pe_dnewK (pa_cons pe_str pa_nil))) (pa_cons (pe_tup (pa_cons pe_non (pa_cons pe_str pa_nil))) (pa_cons (pe_tup (pa_cons (pe_lst pa_nil) (pa_cons pe_str pa_nil))) (pa_cons (pe_tup (pa_cons (pe_lst (pa_cons (pe_tup (pa_cons pe_str (pa_cons (pe_lst (pa_cons pe_int (pa_cons pe_int pa_nil))) pa_nil))) pa_nil)) (pa_cons pe_str pa_nil))) (pa_cons (pe_tup (pa_cons (pe_disp (pps_cons pe_str (pe_lst (pa_cons pe_int (pa_cons pe_int pa_nil))) pps_nil) (by rfl) (by rfl) (fun z => by cases z) (by decide)) (pa_cons pe_str pa_nil))) pa_nil))))))))
      (pss_cons (ps_set (i := 0) scKis.nd rfl (Or.inl rfl) (pe_op op_cat (pv 0) (pe_lst (pa_cons (pe_tup (pa_cons (pe_disp (pps_cons pe_str (pe_lst (pa_cons pe_int (pa_cons pe_int pa_nil))) pps_nil) (by rfl) (by rfl) (fun z => by cases z) (by decide)) (pa_cons pe_str pa_nil))) (pa_cons (pe_tup (pa_cons (pe_disp (pps_cons pe_str (pe_lst (pa_cons pe_int (pa_cons pe_int pa_nil))) pps_nil) (by rfl) (by rfl) (fun z => by cases z) (by decide)) (pa_cons pe_str pa_nil))) (pa_cons (pe_tup (pa_cons (pe_disp (pps_cons pe_str (pe_lst (pa_cons pe_int (pa_cons pe_int pa_nil))) (pps_cons pe_str (pe_lst (pa_cons pe_int (pa_cons pe_int pa_nil))) pps_nil)) (by rfl) (by rfl) (fun z => by cases z) (by decide)) (pa_cons pe_str pa_nil))) pa_nil))))))
      (pss_cons (ps_set (i := 0) scKis.nd rfl (Or.inl rfl) (pe_op op_cat (pv 0) (pe_lst (pa_cons (pe_tup (pa_cons (pe_disp (pps_cons pe_str (pe_lst (pa_cons pe_int (pa_cons pe_int pa_nil))) pps_nil) (by rfl) (by rfl) (fun z => by cases z) (by decide)) (pa_cons pe_str pa_nil))) (pa_cons (pe_tup (pa_cons (pe_disp (pps_cons pe_str (pe_lst (pa_cons pe_int (pa_cons pe_int pa_nil))) pps_nil) (by rfl) (by rfl) (fun z => by cases z) (by decide)) (pa_cons pe_str pa_nil))) (pa_cons (pe_tup (pa_cons (pe_disp (pps_cons pe_int (pe_lst (pa_cons pe_int (pa_cons pe_int pa_nil))) pps_nil) (by rfl) (by rfl) (fun z => by cases z) (by decide)) (pa_cons pe_str pa_nil))) pa_nil))))))
      (pss_cons (ps_expr (pe_bm PySem.F.plainAttrs_list PySem.F.slot_list_append PySem.F.type_list_append mt_append (pv 0) (pa_cons (pe_tup (pa_cons (pe_dispL (pps_cons pe_str (pe_lst (pa_cons pe_int (pa_cons pe_int pa_nil))) (pps_cons pe_non (pe_lst (pa_cons pe_int (pa_cons pe_int pa_nil))) pps_nil)) (by rfl) (by rfl) (fun z => by cases z) (by decide)) (pa_cons pe_str pa_nil))) pa_nil)))
      (pss_cons (ps_set (i := 1) scKis.nd rfl (Or.inl rfl) (pe_callTy (dictPK K rfl) (by rfl) T.dict (by decide +kernel) (pa_cons (pe_lc (own := [("k", 3)]) (g := gName 3) (tt := tYes) rfl scKis.nd (pi_range2 rfl T.range (pa_cons pe_int (pa_cons pe_int pa_nil))) (blkOk_by (own := [("k", 3)]) (N := ["rows", "four", "five", "k"]) (sc := defScope sKis) (by decide +kernel)) (fun _ _ _ _ _ => pg_name (i := 3) scKis.nd rfl (Or.inl rfl)) (fun _ _ _ _ _ => pts_nil) (fun _ _ _ _ _ => (pe_tup (pa_cons (pe_op op_mulS pe_str (pv 3)) (pa_cons (pe_lst (pa_cons pe_int (pa_cons pe_int pa_nil))) pa_nil))))) pa_nil)))
      (pss_cons (ps_set (i := 2) scKis.nd rfl (Or.inl rfl) (pe_callTy (dictPK K rfl) (by rfl) T.dict (by decide +kernel) (pa_cons (pe_lc (own := [("k", 3)]) (g := gName 3) (tt := tYes) rfl scKis.nd (pi_range2 rfl T.range (pa_cons pe_int (pa_cons pe_int pa_nil))) (blkOk_by (own := [("k", 3)]) (N := ["rows", "four", "five", "k"]) (sc := defScope sKis) (by decide +kernel)) (fun _ _ _ _ _ => pg_name (i := 3) scKis.nd rfl (Or.inl rfl)) (fun _ _ _ _ _ => pts_nil) (fun _ _ _ _ _ => (pe_tup (pa_cons (pe_op op_mulS pe_str (pv 3)) (pa_cons (pe_lst (pa_cons pe_int (pa_cons pe_int pa_nil))) pa_nil))))) pa_nil)))
      (pss_one (ps_ret (pe_op op_cat (pv 0) (pe_lst (pa_cons (pe_tup (pa_cons (pv 1) (pa_cons pe_str pa_nil))) (pa_cons (pe_tup (pa_cons (pv 2) (pa_cons pe_str pa_nil))) (pa_cons (pe_tup (pa_cons (pe_disp (pps_cons pe_str (pe_lst (pa_cons pe_int (pa_cons pe_int pa_nil))) (pps_cons pe_str pe_non pps_nil)) (by rfl) (by rfl) (fun z => by cases z) (by decide)) (pa_cons pe_str pa_nil))) (pa_cons (pe_tup (pa_cons (pe_disp (pps_cons pe_str (pe_lst (pa_cons pe_int (pa_cons pe_str pa_nil))) pps_nil) (by rfl) (by rfl) (fun z => by cases z) (by decide)) (pa_cons pe_str pa_nil))) pa_nil))))))))))))))))), ?_⟩
    refine s_asgQ (A := noA) (d := .lst tK0) (eq_lst Tr.no (eqa_cons (eq_tup Tr.no (eqa_cons (eq_disp Tr.no (by decide +kernel) (by decide) (fun A' H' e' t' => (eqp_cons (k := (.inr "a")) (fun _ => .str _ (by decide +kernel)) (eq_lst t' (eqa_cons eq_int' (eqa_cons eq_int' eqa_nil)) (by decide)) eqp_nil))) (eqa_cons (eq_str (by decide +kernel)) eqa_nil)) (by decide)) (eqa_cons (eq_tup Tr.no (eqa_cons (eq_disp Tr.no (by decide +kernel) (by decide) (fun A' H' e' t' => (eqp_cons (k := (.inr "a")) (fun _ => .str _ (by decide +kernel)) (eq_lst t' (eqa_cons eq_int' (eqa_cons eq_int' eqa_nil)) (by decide)) eqp_nil))) (eqa_cons (eq_str (by decide +kernel)) eqa_nil)) (by decide)) (eqa_cons (eq_tup Tr.no (eqa_cons (eq_disp Tr.no (by decide +kernel) (by decide) (fun A' H' e' t' => (eqp_cons (k := (.inr "a")) (fun _ => .str _ (by decide +kernel)) (eq_lst t' (eqa_cons eq_negi (eqa_cons eq_int' eqa_nil)) (by decide)) eqp_nil))) (eqa_cons (eq_str (by decide +kernel)) eqa_nil)) (by decide)) (eqa_cons (eq_tup Tr.no (eqa_cons (eq_disp Tr.no (by decide +kernel) (by decide) (fun A' H' e' t' => (eqp_cons (k := (.inr "a")) (fun _ => .str _ (by decide +kernel)) (eq_lst t' (eqa_cons eq_non (eqa_cons eq_int' eqa_nil)) (by decide)) eqp_nil))) (eqa_cons (eq_str (by decide +kernel)) eqa_nil)) (by decide)) eqa_nil)))) (by decide)) (fun v0 H0 e0 d0 => ?_)
    dsimp only [tSeq]
    refine s_asgQ (A := noA) (eq_cat (as := tK0) (bs := tK1) Tr.no (eq_var rfl d0) (eq_lst Tr.no (eqa_cons (eq_tup Tr.no (eqa_cons (eq_disp Tr.no (by decide +kernel) (by decide) (fun A' H' e' t' => (eqp_cons (k := (.inr "a")) (fun _ => .str _ (by decide +kernel)) (eq_lst t' (eqa_cons eq_non (eqa_cons eq_non eqa_nil)) (by decide)) eqp_nil))) (eqa_cons (eq_str (by decide +kernel)) eqa_nil)) (by decide)) (eqa_cons (eq_tup Tr.no (eqa_cons (eq_disp Tr.no (by decide +kernel) (by decide) (fun A' H' e' t' => (eqp_cons (k := (.inr "b")) (fun _ => .str _ (by decide +kernel)) (eq_lst t' (eqa_cons eq_int' (eqa_cons eq_int' eqa_nil)) (by decide)) (eqp_cons (k := (.inr "a")) (fun _ => .str _ (by decide +kernel)) (eq_lst t' (eqa_cons eq_non (eqa_cons eq_non eqa_nil)) (by decide)) eqp_nil)))) (eqa_cons (eq_str (by decide +kernel)) eqa_nil)) (by decide)) (eqa_cons (eq_tup Tr.no (eqa_cons (eq_disp Tr.no (by decide +kernel) (by decide) (fun A' H' e' t' => (eqp_cons (k := (.inr "a")) (fun _ => .str _ (by decide +kernel)) (eq_lst t' (eqa_cons eq_bl (eqa_cons eq_int' eqa_nil)) (by decide)) eqp_nil))) (eqa_cons (eq_str (by decide +kernel)) eqa_nil)) (by decide)) eqa_nil))) (by decide)) (by decide)) (fun v1 H1 e1 d1 => ?_)
    dsimp only [tSeq]
    refine s_asgQ (A := noA) (eq_cat (as := (tK0 ++ tK1)) (bs := tK2) Tr.no (eq_var rfl d1) (eq_lst Tr.no (eqa_cons (eq_tup Tr.no (eqa_cons (eq_disp Tr.no (by decide +kernel) (by decide) (fun A' H' e' t' => (eqp_cons (k := (.inr "a")) (fun _ => .str _ (by decide +kernel)) (eq_lst t' (eqa_cons eq_int' (eqa_cons eq_bl eqa_nil)) (by decide)) eqp_nil))) (eqa_cons (eq_str (by decide +kernel)) eqa_nil)) (by decide)) (eqa_cons (eq_tup Tr.no (eqa_cons (eq_disp Tr.no (by decide +kernel) (by decide) (fun A' H' e' t' => (eqp_cons (k := (.inr "a")) (fun _ => .str _ (by decide +kernel)) (eq_lst t' (eqa_cons eq_int' eqa_nil) (by decide)) eqp_nil))) (eqa_cons (eq_str (by decide +kernel)) eqa_nil)) (by decide)) (eqa_cons (eq_tup Tr.no (eqa_cons (eq_disp Tr.no (by decide +kernel) (by decide) (fun A' H' e' t' => (eqp_cons (k := (.inr "a")) (fun _ => .str _ (by decide +kernel)) (eq_lst t' (eqa_cons eq_int' (eqa_cons eq_int' (eqa_cons eq_int' eqa_nil))) (by decide)) eqp_nil))) (eqa_cons (eq_str (by decide +kernel)) eqa_nil)) (by decide)) (eqa_cons (eq_tup Tr.no (eqa_cons (eq_disp Tr.no (by decide +kernel) (by decide) (fun A' H' e' t' => (eqp_cons (k := (.inr "a")) (fun _ => .str _ (by decide +kernel)) (eq_tup t' (eqa_cons eq_int' (eqa_cons eq_int' eqa_nil)) (by decide)) eqp_nil))) (eqa_cons (eq_str (by decide +kernel)) eqa_nil)) (by decide)) eqa_nil)))) (by decide)) (by decide)) (fun v2 H2 e2 d2 => ?_)
    dsimp only [tSeq]
    refine s_asgQ (A := noA) (eq_cat (as := ((tK0 ++ tK1) ++ tK2)) (bs := tK3) Tr.no (eq_var rfl d2) (eq_lst Tr.no (eqa_cons (eq_tup Tr.no (eqa_cons (eq_dnew Tr.no) (eqa_cons (eq_str (by decide +kernel)) eqa_nil)) (by decide)) (eqa_cons (eq_tup Tr.no (eqa_cons eq_non (eqa_cons (eq_str (by decide +kernel)) eqa_nil)) (by decide)) (eqa_cons (eq_tup Tr.no (eqa_cons (eq_lst Tr.no eqa_nil (by decide)) (eqa_cons (eq_str (by decide +kernel)) eqa_nil)) (by decide)) (eqa_cons (eq_tup Tr.no (eqa_cons (eq_lst Tr.no (eqa_cons (eq_tup Tr.no (eqa_cons (eq_str (by decide +kernel)) (eqa_cons (eq_lst Tr.no (eqa_cons eq_int' (eqa_cons eq_int' eqa_nil)) (by decide)) eqa_nil)) (by decide)) eqa_nil) (by decide)) (eqa_cons (eq_str (by decide +kernel)) eqa_nil)) (by decide)) (eqa_cons (eq_tup Tr.no (eqa_cons (eq_disp Tr.no (by decide +kernel) (by decide) (fun A' H' e' t' => (eqp_cons (k := (.inr "")) (fun _ => .str _ (by decide +kernel)) (eq_lst t' (eqa_cons eq_int' (eqa_cons eq_int' eqa_nil)) (by decide)) eqp_nil))) (eqa_cons (eq_str (by decide +kernel)) eqa_nil)) (by decide)) eqa_nil))))) (by decide)) (by decide)) (fun v3 H3 e3 d3 => ?_)
    dsimp only [tSeq]
    refine s_asgQ (A := noA) (eq_cat (as := (((tK0 ++ tK1) ++ tK2) ++ tK3)) (bs := tK4) Tr.no (eq_var rfl d3) (eq_lst Tr.no (eqa_cons (eq_tup Tr.no (eqa_cons (eq_disp Tr.no (by decide +kernel) (by decide) (fun A' H' e' t' => (eqp_cons (k := (.inr "abcdefgh")) (fun _ => .str _ (by decide +kernel)) (eq_lst t' (eqa_cons eq_int' (eqa_cons eq_int' eqa_nil)) (by decide)) eqp_nil))) (eqa_cons (eq_str (by decide +kernel)) eqa_nil)) (by decide)) (eqa_cons (eq_tup Tr.no (eqa_cons (eq_disp Tr.no (by decide +kernel) (by decide) (fun A' H' e' t' => (eqp_cons (k := (.inr "abcdefghi")) (fun _ => .str _ (by decide +kernel)) (eq_lst t' (eqa_cons eq_int' (eqa_cons eq_int' eqa_nil)) (by decide)) eqp_nil))) (eqa_cons (eq_str (by decide +kernel)) eqa_nil)) (by decide)) (eqa_cons (eq_tup Tr.no (eqa_cons (eq_disp Tr.no (by decide +kernel) (by decide) (fun A' H' e' t' => (eqp_cons (k := (.inr "a")) (fun _ => .str _ (by decide +kernel)) (eq_lst t' (eqa_cons eq_int' (eqa_cons eq_int' eqa_nil)) (by decide)) (eqp_cons (k := (.inr "A")) (fun _ => .str _ (by decide +kernel)) (eq_lst t' (eqa_cons eq_int' (eqa_cons eq_int' eqa_nil)) (by decide)) eqp_nil)))) (eqa_cons (eq_str (by decide +kernel)) eqa_nil)) (by decide)) eqa_nil))) (by decide)) (by decide)) (fun v4 H4 e4 d4 => ?_)
    dsimp only [tSeq]
    refine s_asgCat (as := ((((tK0 ++ tK1) ++ tK2) ++ tK3) ++ tK4)) (bs := tK5) (eq_var rfl d4) (eq_lst Tr.no (eqa_cons (eq_tup Tr.no (eqa_cons (eq_disp Tr.no (by decide +kernel) (by decide) (fun A' H' e' t' => (eqp_cons (k := (.inr "a b")) (fun _ => .str _ (by decide +kernel)) (eq_lst t' (eqa_cons eq_int' (eqa_cons eq_int' eqa_nil)) (by decide)) eqp_nil))) (eqa_cons (eq_str (by decide +kernel)) eqa_nil)) (by decide)) (eqa_cons (eq_tup Tr.no (eqa_cons (eq_disp Tr.no (by decide +kernel) (by decide) (fun A' H' e' t' => (eqp_cons (k := (.inr "a1")) (fun _ => .str _ (by decide +kernel)) (eq_lst t' (eqa_cons eq_int' (eqa_cons eq_int' eqa_nil)) (by decide)) eqp_nil))) (eqa_cons (eq_str (by decide +kernel)) eqa_nil)) (by decide)) (eqa_cons (eq_tup Tr.no (eqa_cons (eq_disp Tr.no (by decide +kernel) (by decide) (fun A' H' e' t' => (eqp_cons (k := (.inl 0)) (fun _ => .int _) (eq_lst t' (eqa_cons eq_int' (eqa_cons eq_int' eqa_nil)) (by decide)) eqp_nil))) (eqa_cons (eq_str (by decide +kernel)) eqa_nil)) (by decide)) eqa_nil))) (by decide)) (by decide) (fun p xs H5 e5 np hp hx => ?_)
    dsimp only [tSeq]
    refine s_appR (R := OddRow P w) (fun _ _ _ h s => h.same s) hp (Evl.ev_var rfl) (er_odd (only_tr hp)) hx (by decide) (fun v6 H6 b6 h6 x6 o6 => ?_)
    dsimp only [tSeq]
    refine s_asgQ (A := only p) (d := .dic (kdsD 4)) (eq_kds (n := 4) (only_tr h6) (by decide) (fun _ => rfl) (fun _ => rfl) (by decide +kernel)) (fun v7 H7 e7 d7 => ?_)
    dsimp only [tSeq]
    refine s_asgQ (A := only p) (d := .dic (kdsD 5)) (eq_kds (n := 5) (only_tr (e7 _ _ h6)) (by decide) (fun _ => rfl) (fun _ => rfl) (by decide +kernel)) (fun v8 H8 e8 d8 => ?_)
    dsimp only [tSeq]
    have e68 := Same.trans e7 e8
    have d7' := d7.same (mask_same e8)
    have T8 : Tr (only p) H8 := only_tr (e68 _ _ h6)
    have l1 := x6.length
    refine s_retCatO (bs := tblB) (p := p) rfl (e68 _ _ h6) (by rw [List.length_append, l1]; show tblA.length + 1 ≤ 1000; decide) (eq_lst T8 (eqa_cons (eq_tup T8 (eqa_cons (eq_var rfl d7') (eqa_cons (eq_str (by decide +kernel)) eqa_nil)) (by decide)) (eqa_cons (eq_tup T8 (eqa_cons (eq_var rfl d8) (eqa_cons (eq_str (by decide +kernel)) eqa_nil)) (by decide)) (eqa_cons (eq_tup T8 (eqa_cons (eq_disp T8 (by decide +kernel) (by decide) (fun A' H' e' t' => (eqp_cons (k := (.inr "a")) (fun _ => .str _ (by decide +kernel)) (eq_lst t' (eqa_cons eq_int' (eqa_cons eq_int' eqa_nil)) (by decide)) (eqp_cons (k := (.inr "b")) (fun _ => .str _ (by decide +kernel)) eq_non eqp_nil)))) (eqa_cons (eq_str (by decide +kernel)) eqa_nil)) (by decide)) (eqa_cons (eq_tup T8 (eqa_cons (eq_disp T8 (by decide +kernel) (by decide) (fun A' H' e' t' => (eqp_cons (k := (.inr "a")) (fun _ => .str _ (by decide +kernel)) (eq_lst t' (eqa_cons eq_int' (eqa_cons (eq_str (by decide +kernel)) eqa_nil)) (by decide)) eqp_nil))) (eqa_cons (eq_str (by decide +kernel)) eqa_nil)) (by decide)) eqa_nil)))) (by decide)) (by decide) (fun r ys HZ eZ hr hy => ?_)
    have sa : Same (mask (only p) H6) HZ := Same.trans mask_un (Same.trans e68 eZ)
    refine q r xs v6 ys _ (fun b o hb => eZ _ _ (e68 _ _ (b6 _ _ (ne_of_none (e4 _ _ (e3 _ _ (e2 _ _ (e1 _ _ (e0 _ _ hb))))) np) (e5 _ _ (e4 _ _ (e3 _ _ (e2 _ _ (e1 _ _ (e0 _ _ hb))))))))) hr (x6.same sa) (o6.same sa) hy

end
end K04

set_option maxRecDepth 100000
set_option maxHeartbeats 3000000
namespace HX
open PySem PySem.Spec PyProof.Rows L2
def EvX (te : TE) (σ : L2.St) (H : Hp) (R : Hp → V → Prop) : Prop := ∀ H1, Same H H1 → ∀ Q : VK, (∀ v H2, Same H1 H2 → R H2 v → Q v H2) → te σ H1 Q
section
variable {A : Addr → Bool} {K : PySem.W.Frag} {σ : L2.St} {H : Hp} {te ta tb : TE} {tr tas : TA} {d e : D} {ds : List D} {v : V} {R : Hp → V → Prop} {D : Ends}
theorem eq_evF (h : Evl.Ev te σ H v) (hd : ∀ H', Same H H' → Dq (mask A H') v d) : EvQ A te σ H d := fun H1 e1 Q q => h H1 e1 _ fun H2 e2 => q v H2 e2 (hd H2 (Same.trans e1 e2))
theorem ex_of (h : EvQ noA te σ H d) : EvX te σ H (fun H v => Dq H v d) := fun H1 e1 Q q => h H1 e1 _ fun v H2 e2 hv => q v H2 e2 (by rw [mask_no] at hv; exact hv)
theorem s_asgX {i : Nat} (h : EvX te σ H R) (k : ∀ v H1, Same H H1 → R H1 v → D.nx (σ.set i (some v)) H1) : tAsg te (gName i) D σ H := h H (Same.refl H) _ fun v H1 e1 hv => k v H1 e1 hv
theorem ev_neQ (ha : EvQ noA ta σ H d) (hb : EvQ noA tb σ H e) (n1 : d.nd = true) (n2 : e.nd = true) (s1 : SeqAt.shaped d.py = true) (s2 : SeqAt.shaped e.py = true) : Evl.Ev (tOp (rNeD K) ta tb) σ H (.bl (!PyData.eqv d.py e.py)) := fun H1 e1 Q q =>
  ha H1 e1 _ fun x H2 e2 hx => hb H2 (Same.trans e1 e2) _ fun y H3 e3 hy => by
    rw [mask_no] at hx hy
    exact ⟨d.py, e.py, (hx.same e3).dp n1, hy.dp n2, s1, s2, q H3 (Same.trans e2 e3)⟩
theorem ev_repr (ha : EvQ noA ta σ H (.lst ds)) (n : HX.D.nd (.lst ds) = true) (h1 : (HX.D.py (.lst ds)).showable = true) (h2 : (HX.D.py (.lst ds)).hasDict = false) (h3 : (HX.D.py (.lst ds)).depth ≤ 64) (h4 : (HX.D.py (.lst ds)).shown.length ≤ sizeLine) :
    Evl.Ev (tCB (rRepr K) (tCons ta tNil)) σ H (.str (HX.D.py (.lst ds)).shown) := fun H1 e1 Q q =>
  ha H1 e1 _ fun x H2 e2 hx => by
    rw [mask_no] at hx
    obtain ⟨a, xs, rfl, -, -⟩ := hx.lst_inv
    exact ⟨a, HX.D.py (.lst ds), rfl, hx.dp n, h1, h2, h3, h4, q H2 e2⟩
theorem s_asgCatL {i : Nat} {p : Addr} {xs ys : List V} (ha : Evl.Ev ta σ H (.ref p)) (hp : H p = some (.lst xs)) (hb : Evl.EvL tb σ H ys) (hz : xs.length + ys.length ≤ 1000) (k : ∀ r H1, Same H H1 → H1 r = some (.lst (xs ++ ys)) → D.nx (σ.set i (some (.ref r))) H1) : tAsg (tOp rCat ta tb) (gName i) D σ H :=
  ha H (Same.refl H) _ fun H1 e1 => hb H1 e1 _ fun b H2 n2 e2 h2 => ⟨p, b, xs, ys, rfl, rfl, e2 _ _ (e1 _ _ hp), h2, Evl.sz_of (by omega), fun r hr => k r _ (Same.trans (Same.trans e1 e2) (Evl.Ex.new hr)) upd_same⟩
theorem passE {P : Program} {w : World} {X : Cx} : Passes (L2.CX P w) X E0 := fun _ _ _ _ _ _ _ c => by
  obtain ⟨a, B, H', cls, d, _, _, _, _, _, _, _, hE⟩ := c
  exact hE.elim
end
end HX
namespace K04
open PySem PySem.Spec PyProof.Rows L2 HX
abbrev sTold : Stmt := topS 28
theorem scTold : FnScope ["number", "some", "system", "told", "other", "mode"] ["number"] (defScope sTold) := ⟨rfl, rfl, rfl, by decide +kernel, rfl, by decide +kernel, by decide +kernel⟩
def iD (n : Nat) : HX.D := .int (n : Nat)
def swT (n : Nat) : List (List HX.D) := [[iD 0, iD n, iD 4], [iD 1, iD 0, iD 2], [iD 3, iD 0, iD 0]]
def swO (n : Nat) : List (List HX.D) := [[iD 0, iD 1, iD 3], [iD n, iD 0, iD 0], [iD 4, iD 2, iD 0]]
def skiD (n : Nat) : List HX.D := [iD 1, .non, iD n]
def endD : List HX.D := [.non, .non, iD 0]
def kdT (n : Nat) : List (Key × HX.D) := [(.inr "ski", .lst (skiD n)), (.inr "end", .lst endD)]
def ksT (n : Nat) : List (Str × List HX.D) := [("end", endD), ("ski", skiD n)]
theorem kinds_two {l : List (Key × HX.D)} {n : Nat} (hl : l = kdT n ∨ l = (ksT n).map fun q => (.inr q.1, .lst q.2)) {ks : List (Str × List HX.D)} (h : KindsOf l ks) : ks = ksT n := by
  have es : ¬ (("ski" : Str) = "end") := by decide +kernel
  have es' : ¬ (("end" : Str) = "ski") := by decide +kernel
  have hmem : ∀ k d, ((k, d) : Key × HX.D) ∈ l → (k = .inr "ski" ∧ d = .lst (skiD n)) ∨ (k = .inr "end" ∧ d = .lst endD) := by
    intro k d hm
    rcases hl with rfl | rfl
    · rcases List.mem_cons.mp hm with same | hm
      · cases same; exact .inl ⟨rfl, rfl⟩
      · rcases List.mem_cons.mp hm with same | hm
        · cases same; exact .inr ⟨rfl, rfl⟩
        · cases hm
    · rcases List.mem_cons.mp hm with same | hm
      · cases same; exact .inr ⟨rfl, rfl⟩
      · rcases List.mem_cons.mp hm with same | hm
        · cases same; exact .inl ⟨rfl, rfl⟩
        · cases hm
  have hlen : ks.length = 2 := by
    have := h.perm.length_eq
    rw [List.length_map, List.length_map, List.length_map] at this
    rw [this]
    rcases hl with rfl | rfl <;> rfl
  have hnd : (ks.map (·.1)).Nodup := by
    have z : ((ks.map (·.1)).map (Sum.inr : Str → Key)).Nodup := h.perm.nodup_iff.mpr (by
      rcases hl with rfl | rfl
      · show ([.inr "ski", .inr "end"] : List Key).Nodup
        simp
        exact es
      · show ([.inr "end", .inr "ski"] : List Key).Nodup
        simp
        exact es')
    exact (List.pairwise_map.mp z).imp fun h e => h (by rw [e])
  obtain ⟨p, q, rfl⟩ : ∃ p q, ks = [p, q] := by
    match ks, hlen with
    | [p, q], _ => exact ⟨p, q, rfl⟩
  have hp := hmem _ _ (h.at_ p List.mem_cons_self)
  have hq := hmem _ _ (h.at_ q (List.mem_cons_of_mem _ List.mem_cons_self))
  have hpq : p.1 ≠ q.1 := by
    have z : ([p.1, q.1] : List Str).Nodup := hnd
    simp at z
    exact z
  have up : sortedS [p.1, q.1] = true := h.up
  obtain ⟨p1, p2⟩ := p
  obtain ⟨q1, q2⟩ := q
  rcases hp with ⟨a1, a2⟩ | ⟨a1, a2⟩ <;> rcases hq with ⟨b1, b2⟩ | ⟨b1, b2⟩ <;> cases a1 <;> cases a2 <;> cases b1 <;> cases b2
  · exact absurd rfl hpq
  · exact absurd (show sortedS ["ski", "end"] = true from up) (by decide +kernel)
  · rfl
  · exact absurd rfl hpq
section
variable {P : Program} {w : World} {K : PySem.W.Frag} {mg : Str → Option Value} {base : Heap} {σ : L2.St} {H : Hp} {C CS CK : Addr} {ta tb : TE}
/-- System(..) of right values -/
theorem ex_sys {sw : List (List HX.D)} {l : List (Key × HX.D)} {ks0 : List (Str × List HX.D)} (ha : EvQ noA ta σ H (.lst (sw.map .lst))) (hb : ∀ H1, Same H H1 → EvQ noA tb σ H1 (.dic l)) (c1 : areSw (.lst (sw.map .lst)) = true) (c2 : areKi sw.length (.dic l) = true) (c3 : kvOk (.dic l) = true) (hk : ∀ ks, KindsOf l ks → ks = ks0) :
    EvX (tMake C (spInit C CS CK) [] E0 (tCons ta (tCons tb tNil))) σ H (fun H v => ∃ x, v = .ref x ∧ SysAt C H x sw ks0) := fun H1 e1 Q q =>
  ha H1 e1 _ fun v1 H2 e2 d1 => hb H2 (Same.trans e1 e2) H2 (Same.refl H2) _ fun v2 H3 e3 d2 => by
    rw [mask_no] at d1 d2
    intro x dx hx hdx hne
    have sn : Same H3 (upd (upd H3 dx (.own x)) x (.ins C dx [])) := same_new hx hdx
    refine ⟨noA, x, dx, v1, v2, .lst (sw.map .lst), .dic l, rfl, upd_same, Tr.no, rfl, (d1.same e3).same sn, d2.same sn, c3, fun z => ?_, fun l' z1 z2 z3 => ?_, fun sw' l' ks H' z1 z2 z3 z4 hks b hS => ⟨rfl, ?_⟩⟩
    · rw [c1] at z; cases z
    · cases z1
      rw [List.length_map, c2] at z3
      cases z3
    · have z5 : sw' = sw := (List.map_inj_right (fun a b h => HX.D.lst.inj h)).mp (HX.D.lst.inj z1).symm
      have z6 : l = l' := HX.D.dic.inj z2
      subst z5
      subst z6
      rw [hk ks hks] at hS
      have sz : Same H3 H' := fun b' o h => b b' o (ne_of_none h hx) (sn b' o h)
      exact q (.ref x) H' (Same.trans (Same.trans e2 e3) sz) ⟨x, rfl, hS⟩
theorem ev_switch {x : Addr} {sw : List (List HX.D)} {ks : List (Str × List HX.D)} {i j : Nat} {row : List HX.D} {z : Int} {E : XK} (hv : Evl.Ev ta σ H (.ref x)) (hS : SysAt C H x sw ks) (hi : sw[i]? = some row) (hj : row[j]? = some (.int z)) :
    Evl.Ev (tMeth C "switch" (spSwitch C) [] E ta (tCons (tC (.int (i : Nat))) (tCons (tC (.int (j : Nat))) tNil))) σ H (.int z) := fun H1 e1 Q q =>
  hv H1 e1 _ fun H2 e2 => by
    have S2 := hS.same (Same.trans e1 e2)
    obtain ⟨dx, pt, ps, pk, pa, pw, fs, h1, fl, _⟩ := S2.ex
    refine ⟨x, dx, _, rfl, h1, fl.no _ (by decide +kernel) (by decide +kernel) (by decide +kernel) (by decide +kernel) (by decide +kernel) (by decide +kernel), x, sw, ks, i, j, row, .int z, rfl, S2, hi, hj, fun v hv => ?_⟩
    cases hv
    exact q H2 e2
def flatV : HX.D → V
  | .bl b => .bl b
  | .int i => .int i
  | .str x => .str x
  | _ => .non
theorem flat_of {v : V} {d : HX.D} (h : Dq H v d) (f : d.flat = true) : v = flatV d := by
  cases h with
  | non => rfl
  | bl b => rfl
  | int i => rfl
  | str x _ => rfl
  | _ => cases f
theorem ev_service {x : Addr} {sw : List (List HX.D)} {ks : List (Str × List HX.D)} {m : Str} {tj : TE} {j : Nat} {li : List HX.D} {d : HX.D} {E : XK} (hv : Evl.Ev ta σ H (.ref x)) (hj' : Evl.Ev tj σ H (.int (j : Nat))) (hS : SysAt C H x sw ks) (hi : (m, li) ∈ ks) (hj : li[j]? = some d) (hf : d.flat = true) :
    Evl.Ev (tMeth C "service" (spService C) [] E ta (tCons (tC (.str m)) (tCons tj tNil))) σ H (flatV d) := fun H1 e1 Q q =>
  hv H1 e1 _ fun H2 e2 => by
    have S2 := hS.same (Same.trans e1 e2)
    obtain ⟨dx, pt, ps, pk, pa, pw, fs, h1, fl, _⟩ := S2.ex
    refine ⟨x, dx, _, rfl, h1, fl.no _ (by decide +kernel) (by decide +kernel) (by decide +kernel) (by decide +kernel) (by decide +kernel) (by decide +kernel), ?_⟩
    refine hj' H2 (Same.trans e1 e2) _ fun H3 e3 => ⟨x, sw, ks, m, j, li, d, rfl, S2.same e3, hi, hj, fun v hv => ?_⟩
    rw [flat_of hv hf]
    exact q H3 (Same.trans e2 e3)
theorem eq_switches {x : Addr} {sw : List (List HX.D)} {ks : List (Str × List HX.D)} {E : XK} (hv : Evl.Ev ta σ H (.ref x)) (hS : SysAt C H x sw ks) (hl : sw.length ≤ 100) : EvQ noA (tMeth C "switches" (spSwitches C) [] E ta tNil) σ H (.lst (sw.map .lst)) := fun H1 e1 Q q =>
  hv H1 e1 _ fun H2 e2 => by
    have S2 := hS.same (Same.trans e1 e2)
    obtain ⟨dx, pt, ps, pk, pa, pw, fs, h1, fl, _⟩ := S2.ex
    exact ⟨x, dx, _, rfl, h1, fl.no _ (by decide +kernel) (by decide +kernel) (by decide +kernel) (by decide +kernel) (by decide +kernel) (by decide +kernel), x, sw, ks, rfl, S2, hl, fun p H' n => q (.ref p) H' (Same.trans e2 n.same) n.dq.no⟩
theorem eq_kinds {x : Addr} {sw : List (List HX.D)} {ks : List (Str × List HX.D)} {E : XK} (hv : Evl.Ev ta σ H (.ref x)) (hS : SysAt C H x sw ks) (hl : ks.length ≤ 100) : EvQ noA (tMeth C "kinds" (spKinds C) [] E ta tNil) σ H (.dic (ks.map fun q => (.inr q.1, .lst q.2))) := fun H1 e1 Q q =>
  hv H1 e1 _ fun H2 e2 => by
    have S2 := hS.same (Same.trans e1 e2)
    obtain ⟨dx, pt, ps, pk, pa, pw, fs, h1, fl, _⟩ := S2.ex
    exact ⟨x, dx, _, rfl, h1, fl.no _ (by decide +kernel) (by decide +kernel) (by decide +kernel) (by decide +kernel) (by decide +kernel) (by decide +kernel), x, sw, ks, rfl, S2, hl, fun p H' n => q (.ref p) H' (Same.trans e2 n.same) n.dq.no⟩
/-- a == b of two systems -/
theorem ev_sysEq {x : Addr} {sw1 sw2 : List (List HX.D)} {ks1 ks2 : List (Str × List HX.D)} {b : Bool} (ha : Evl.Ev ta σ H (.ref x)) (hS : SysAt C H x sw1 ks1) (hb : EvX tb σ H (fun H v => ∃ y, v = .ref y ∧ SysAt C H y sw2 ks2)) (n1 : ndAll (sw1.map .lst) = true) (n2 : ndAll (sw2.map .lst) = true) (s1 : SeqAt.shaped (.list (pyAll (sw1.map .lst))) = true) (s2 : SeqAt.shaped (.list (pyAll (sw2.map .lst))) = true)
    (hc : (PyData.eqv (.list (pyAll (sw1.map .lst))) (.list (pyAll (sw2.map .lst))) = false ∧ b = false) ∨ (PyData.eqv (.list (pyAll (sw1.map .lst))) (.list (pyAll (sw2.map .lst))) = true ∧ ks1 = ks2 ∧ (ks1.all fun p => p.2.all D.flat) = true ∧ b = true)) :
    Evl.Ev (tOp (rEqI C (RelEq C)) ta tb) σ H (.bl b) := fun H1 e1 Q q =>
  ha H1 e1 _ fun H2 e2 => hb H2 (Same.trans e1 e2) _ fun v H3 e3 hv => by
    obtain ⟨y, rfl, hY⟩ := hv
    have S2 := hS.same (Same.trans (Same.trans e1 e2) e3)
    obtain ⟨dx, pt, ps, pk, pa, pw, fs, h1, fl, _⟩ := S2.ex
    obtain ⟨dy, pt', ps', pk', pa', pw', fs', h1', fl', _⟩ := hY.ex
    exact ⟨x, y, b, dx, dy, _, _, rfl, rfl, h1, h1', ⟨sw1, ks1, sw2, ks2, S2, hY, n1, n2, s1, s2, hc⟩, fun H' s' => q H' (Same.trans (Same.trans e2 e3) s')⟩
end
end K04

set_option maxRecDepth 100000
set_option maxHeartbeats 3000000
namespace K04
open PySem PySem.Spec PyProof.Rows L2 HX
structure Md (K : PySem.W.Frag) (C : Addr) (m q : Str) (st : Stmt) (ps : List Str) (f : Addr) (fd : FuncData) : Prop where
  F : L2.Fun K m q st f fd
  m : Meth K C m f
  b : Binds K fd ps []
theorem rv_isB {a b : Bool} {H : Hp} : Evl.RV rIsB (.bl a) (.bl b) H (.bl (decide (a = b))) := fun H1 _ _ q => ⟨a, b, rfl, rfl, q H1 (Same.refl H1)⟩
theorem le4 {n : Nat} {p : Nat → Prop} (h : n ≤ 4) (q : ∀ m : Fin 5, p m.1) : p n := q ⟨n, by omega⟩
section
variable {P : Program} {w : World} {K : PySem.W.Frag} {mg : Str → Option Value} {base : Heap}
def spTold : Sp := fun vs H Q _ => ∃ n : Nat, vs = [.int (n : Nat)] ∧ n ≤ 4 ∧ ∀ H', Same H H' → Q (.bl true) H'
def tolD (n : Nat) : List HX.D := [iD 1, .non, iD n, .non, .non, iD 0]
theorem ok_told {f fN C CS CK fI fNm fW fF fK fS fA fY fw fs fws fks fq : Addr} {fd fdN dI dN dW dF dK dS dA dY dw ds dws dks dq : FuncData} {k : Nat} (F : L2.Fun K "_law_told_right" "_law_told_right" sTold f fd) (T : Bt mg) (hrp : mg "repr" = none) (S : Sy K mg fI fNm fW fF fK fS fA fY dI dN dW dF dK dS dA dY) (c : SysC K mg C) (ci : SysI K C) (eS : ErrC K mg "BadSwitches" CS) (eK : ErrC K mg "BadKinds" CK)
    (M : Mk K C fN) (FN : L2.Fun K "__init__" "System.__init__" sInit fN fdN) (bN : Binds K fdN ["self", "switches", "kinds"] []) (mw : Md K C "switch" "System.switch" sSwitch ["self", "first", "second"] fw dw) (ms : Md K C "service" "System.service" sService ["self", "kind", "mode"] fs ds)
    (mws : Md K C "switches" "System.switches" sSwitches ["self"] fws dws) (mks : Md K C "kinds" "System.kinds" sKinds ["self"] fks dks) (mq : Md K C "__eq__" "System.__eq__" sEq ["self", "other"] fq dq) : FnG P w K mg base CX0 (k + 7) f fd ["number"] spTold := by
  have GN : FnOk P w K mg base (L2.CX P w) (k + 5) fN fdN ["self", "switches", "kinds"] (spInit C CS CK) := ok_init FN T S c eS eK
  have Gw : FnOk P w K mg base CX0 (k + 5) fw dw ["self", "first", "second"] (spSwitch C) := ok_switch (k := k + 4) mw.F c
  have Gs : FnOk P w K mg base CX0 (k + 5) fs ds ["self", "kind", "mode"] (spService C) := ok_service (k := k + 4) ms.F c
  have Gws : FnOk P w K mg base CX0 (k + 5) fws dws ["self"] (spSwitches C) := ok_switches (k := k + 4) mws.F T c
  have Gks : FnOk P w K mg base CX0 (k + 5) fks dks ["self"] (spKinds C) := ok_kinds (k := k + 4) mks.F T c
  have Gq : FnOk P w K mg base CX0 (k + 5) fq dq ["self", "other"] (spEqB (RelEq C)) := ok_eq (k := k + 4) mq.F T c ci
  refine Fun.okG F scTold (fun vs H Q E h => ?_) (fun cdv A outer s H vs Q E hr hG h => ?_)
  · obtain ⟨n, rfl, _⟩ := h
    rfl
  · obtain ⟨n, rfl, hn, q⟩ := h
    have hr4 : Room (k + 5) (A.deeper (envOfC "_law_told_right" (defScope sTold) s.heap.objs.size f cdv)) := hr.mono (by omega)
    have hu64 : (A.deeper (envOfC "_law_told_right" (defScope sTold) s.heap.objs.size f cdv)).units + 64 < cLine := by
      have := hr.un
      omega
    have hu66 : (A.deeper (envOfC "_law_told_right" (defScope sTold) s.heap.objs.size f cdv)).units + 66 < cLine := by
      have := hr.un
      omega
    refine ⟨_, pss_cons (ps_set (i := 1) scTold.nd rfl (Or.inl rfl) (pe_disp (pps_cons pe_str (pe_lst (pa_cons pe_int (pa_cons pe_non (pa_cons (pv 0) pa_nil)))) (pps_cons pe_str (pe_lst (pa_cons pe_non (pa_cons pe_non (pa_cons pe_int pa_nil)))) pps_nil)) (by rfl) (by rfl) (fun z => by cases z) (by decide)))
      (pss_cons (ps_set (i := 2) scTold.nd rfl (Or.inr rfl) (pe_make M GN hr (by rfl) c.g bN .nil passE (pa_cons (pe_lst (pa_cons (pe_lst (pa_cons pe_int (pa_cons (pv 0) (pa_cons pe_int pa_nil)))) (pa_cons (pe_lst (pa_cons pe_int (pa_cons pe_int (pa_cons pe_int pa_nil)))) (pa_cons (pe_lst (pa_cons pe_int (pa_cons pe_int (pa_cons pe_int pa_nil)))) pa_nil)))) (pa_cons (pv 1) pa_nil))))
      (pss_cons (ps_if (PW.pt (pw_or (pt_cmpR (op_neD hu64) (pe_tup (pa_cons (pe_fld (pv 2) rfl) (pa_cons (pe_fld (pv 2) rfl) pa_nil))) (pe_tup (pa_cons pe_int (pa_cons (pe_tup (pa_cons pe_str (pa_cons pe_str pa_nil))) pa_nil))) (nomark _))
          (pw_or1 (pt_cmpR op_ne (pe_meth (pv 2) c.cl mw.m Gw hr4 mw.b .nil pass0 (pa_cons pe_int (pa_cons pe_int pa_nil))) (pv 0) (nomark _))))) (pss_one (ps_ret pe_bl)) pss_nil)
      (pss_cons (ps_if (pt_cmpR (op_neD hu64) (pe_lst (pa_cons (pe_meth (pv 2) c.cl mw.m Gw hr4 mw.b .nil pass0 (pa_cons pe_int (pa_cons pe_int pa_nil))) (pa_cons (pe_meth (pv 2) c.cl mw.m Gw hr4 mw.b .nil pass0 (pa_cons pe_int (pa_cons pe_int pa_nil))) (pa_cons (pe_meth (pv 2) c.cl mw.m Gw hr4 mw.b .nil pass0 (pa_cons pe_int (pa_cons pe_int pa_nil))) pa_nil)))) (pe_lst (pa_cons pe_int (pa_cons pe_int (pa_cons pe_int pa_nil)))) (nomark _)) (pss_one (ps_ret pe_bl)) pss_nil)
      (pss_cons (ps_setLc (i := 3) (own := [("mode", 5)]) (g := gName 5) (tt := tYes) rfl scTold.nd rfl rfl (sw_true rfl rfl rfl (by decide +kernel)) (pi_range1 rfl T.range (pa_cons pe_int pa_nil)) (blkOk_by (own := [("mode", 5)]) (N := ["number", "some", "system", "told", "other", "mode"]) (sc := defScope sTold) (by decide +kernel)) (fun _ _ _ _ _ => pg_name (i := 5) scTold.nd rfl (Or.inl rfl)) (fun _ _ _ _ _ => pts_nil)
          (fun _ _ _ _ _ => pe_meth (pv 2) c.cl ms.m Gs hr4 ms.b .nil pass0 (pa_cons pe_str (pa_cons (pv 5) pa_nil))))
      (pss_cons (ps_set (i := 3) scTold.nd rfl (Or.inl rfl) (pe_op op_cat (pv 3) (pe_lc (own := [("mode", 5)]) (g := gName 5) (tt := tYes) rfl scTold.nd (pi_range1 rfl T.range (pa_cons pe_int pa_nil)) (blkOk_by (own := [("mode", 5)]) (N := ["number", "some", "system", "told", "other", "mode"]) (sc := defScope sTold) (by decide +kernel)) (fun _ _ _ _ _ => pg_name (i := 5) scTold.nd rfl (Or.inl rfl)) (fun _ _ _ _ _ => pts_nil)
          (fun _ _ _ _ _ => pe_meth (pv 2) c.cl ms.m Gs hr4 ms.b .nil pass0 (pa_cons pe_str (pa_cons (pv 5) pa_nil))))))
      (pss_cons (ps_if (pt_cmpR op_ne (pe_callB (call_reprD hG hu66) (by rfl) hrp (by decide +kernel) (pa_cons (pv 3) pa_nil)) (pe_callB (call_reprD hG hu66) (by rfl) hrp (by decide +kernel) (pa_cons (pe_lst (pa_cons pe_int (pa_cons pe_non (pa_cons (pv 0) (pa_cons pe_non (pa_cons pe_non (pa_cons pe_int pa_nil))))))) pa_nil)) (nomark _)) (pss_one (ps_ret pe_bl)) pss_nil)
      (pss_cons (ps_set (i := 4) scTold.nd rfl (Or.inl rfl) (pe_make M GN hr (by rfl) c.g bN .nil passE (pa_cons (pe_lst (pa_cons (pe_lst (pa_cons pe_int (pa_cons pe_int (pa_cons pe_int pa_nil)))) (pa_cons (pe_lst (pa_cons (pv 0) (pa_cons pe_int (pa_cons pe_int pa_nil)))) (pa_cons (pe_lst (pa_cons pe_int (pa_cons pe_int (pa_cons pe_int pa_nil)))) pa_nil)))) (pa_cons (pv 1) pa_nil))))
      (pss_one (ps_ret (pe_and (pe_cmpR op_isBl (pe_cmpR (op_eqI Gq hr4 mq.m.at_ mq.m.fn mq.b pass0) (pv 2) (pv 4) (nomark _)) pe_bl (nomark _))
        (pe_one (pe_cmpR (op_eqI Gq hr4 mq.m.at_ mq.m.fn mq.b pass0) (pv 2) (pe_make M GN hr (by rfl) c.g bN .nil passE (pa_cons (pe_meth0 (pv 2) c.cl mws.m Gws hr4 mws.b .nil pass0) (pa_cons (pe_meth0 (pv 2) c.cl mks.m Gks hr4 mks.b .nil pass0) pa_nil))) (nomark _))))))))))))), ?_⟩
    have str_ok : ∀ (x : Str) (H' : Hp), x.length ≤ 1000 → Dq H' (.str x) (.str x) := fun x _ hx => .str x hx
    have lE : ("end" : Str).length ≤ 1000 := by decide +kernel
    have lS : ("ski" : Str).length ≤ 1000 := by decide +kernel
    -- some
    refine s_asgQ (A := noA) (d := .dic (kdT n)) (eq_disp Tr.no (by show ([.inr "ski", .inr "end"] : List Key).Nodup; decide +kernel) (by show 2 ≤ 15; decide) (fun A' H' e' t' =>
      eqp_cons (k := .inr "ski") (fun _ => .str _ lS) (eq_lst t' (eqa_cons eq_int' (eqa_cons eq_non (eqa_cons (eq_var rfl (.int _)) eqa_nil))) (by show 3 ≤ 1000; decide))
      (eqp_cons (k := .inr "end") (fun _ => .str _ lE) (eq_lst t' (eqa_cons eq_non (eqa_cons eq_non (eqa_cons eq_int' eqa_nil))) (by show 3 ≤ 1000; decide)) eqp_nil))) (fun v0 H0 e0 d0 => ?_)
    have d0 : Dq H0 v0 (.dic (kdT n)) := d0.un
    -- system
    dsimp only [tSeq]
    refine s_asgX (ex_sys (sw := swT n) (l := kdT n) (ks0 := ksT n) (eq_lst Tr.no (eqa_cons (eq_lst Tr.no (eqa_cons eq_int' (eqa_cons (eq_var rfl (.int _)) (eqa_cons eq_int' eqa_nil))) (by show 3 ≤ 1000; decide)) (eqa_cons (eq_lst Tr.no (eqa_cons eq_int' (eqa_cons eq_int' (eqa_cons eq_int' eqa_nil))) (by show 3 ≤ 1000; decide)) (eqa_cons (eq_lst Tr.no (eqa_cons eq_int' (eqa_cons eq_int' (eqa_cons eq_int' eqa_nil))) (by show 3 ≤ 1000; decide)) eqa_nil))) (by show 3 ≤ 1000; decide))
      (fun H' s' => eq_var rfl (Dq.no (d0.same s'))) (le4 hn (p := fun n => areSw (.lst ((swT n).map .lst)) = true) (by decide +kernel)) (le4 hn (p := fun n => areKi (swT n).length (.dic (kdT n)) = true) (by decide +kernel)) (le4 hn (p := fun n => kvOk (.dic (kdT n)) = true) (by decide +kernel)) (fun ks hk => kinds_two (.inl rfl) hk)) (fun v2 H2 e2 hv2 => ?_)
    obtain ⟨x, rfl, hS⟩ := hv2
    obtain ⟨dx, pt, ps, pk, pa, pw, rs, kvs, fs, fl, h1, h2, -⟩ := hS.old
    -- the first if
    dsimp only [tSeq]
    refine Evl.s_if (b := false) (Evl.et_is (Evl.et_or (a := false) (b := false)
        (Evl.et_is (Evl.et_test (ev_neQ (d := .tup [iD 3, .tup [.str "end", .str "ski"]]) (e := .tup [iD 3, .tup [.str "end", .str "ski"]])
          (eq_tup Tr.no (eqa_cons (eq_evF (ev_fld (v := .int (3 : Nat)) (Evl.ev_var rfl) h1 c.cl c.nM (fl.m)) (fun _ _ => .int _)) (eqa_cons (eq_evF (ev_fld (v := .ref pt) (Evl.ev_var rfl) h1 c.cl c.nN (fl.n)) (fun H' s' => Dq.no (.tup (s' _ _ h2) (.cons (.str _ lE) (.cons (.str _ lS) .nil))))) eqa_nil)) (by decide))
          (eq_tup Tr.no (eqa_cons eq_int' (eqa_cons (eq_tup Tr.no (eqa_cons (eq_str lE) (eqa_cons (eq_str lS) eqa_nil)) (by decide)) eqa_nil)) (by decide)) (by decide +kernel) (by decide +kernel) (by decide +kernel) (by decide +kernel))) (by decide +kernel))
        (fun _ => Evl.et_is (Evl.et_test (Evl.ev_op (ev_switch (i := 0) (j := 1) (Evl.ev_var rfl) hS rfl rfl) (Evl.ev_var rfl) ne_int)) (by simp))) rfl) (fun z _ _ => nomatch z) (fun _ H3 e3 => ?_)
    have S3 := hS.same e3
    -- the second if
    dsimp only [tSeq, tNext]
    refine Evl.s_if (b := false) (Evl.et_is (Evl.et_test (ev_neQ (d := .lst [iD 3, iD 2, iD 0]) (e := .lst [iD 3, iD 2, iD 0])
          (eq_lst Tr.no (eqa_cons (eq_evF (ev_switch (i := 2) (j := 0) (Evl.ev_var rfl) S3 rfl rfl) (fun _ _ => .int _)) (eqa_cons (eq_evF (ev_switch (i := 1) (j := 2) (Evl.ev_var rfl) S3 rfl rfl) (fun _ _ => .int _)) (eqa_cons (eq_evF (ev_switch (i := 2) (j := 2) (Evl.ev_var rfl) S3 rfl rfl) (fun _ _ => .int _)) eqa_nil))) (by decide))
          (eq_lst Tr.no (eqa_cons eq_int' (eqa_cons eq_int' (eqa_cons eq_int' eqa_nil))) (by decide)) (by decide +kernel) (by decide +kernel) (by decide +kernel) (by decide +kernel))) (by decide +kernel)) (fun z _ _ => nomatch z) (fun _ H4 e4 => ?_)
    have S4 := S3.same e4
    -- told
    have hski : ∀ i, i < 3 → (skiD n)[i]? = some ((skiD n).getD i .non) ∧ ((skiD n).getD i .non).flat = true := by
      intro i hi
      match i, hi with
      | 0, _ => exact ⟨rfl, rfl⟩
      | 1, _ => exact ⟨rfl, rfl⟩
      | 2, _ => exact ⟨rfl, rfl⟩
    have hend : ∀ i, i < 3 → endD[i]? = some (endD.getD i .non) ∧ (endD.getD i .non).flat = true := by
      intro i hi
      match i, hi with
      | 0, _ => exact ⟨rfl, rfl⟩
      | 1, _ => exact ⟨rfl, rfl⟩
      | 2, _ => exact ⟨rfl, rfl⟩
    dsimp only [tSeq, tNext]
    refine Evl.s_asgL (xs := [.int (1 : Nat), .non, .int (n : Nat)]) (el_is (Evl.el_lcR1 (n := 3) (fun _ => true) (fun i => flatV ((skiD n).getD i .non)) (Evl.ea_cons Evl.ev_c Evl.ea_nil) (by decide) (fun _ => rfl) (fun i H' e' hi => et_yes) (fun i H' e' hi _ => ev_service (j := i) (Evl.ev_var rfl) (Evl.ev_var rfl) (S4.same e') (li := skiD n) (List.mem_cons_of_mem _ List.mem_cons_self) (hski i (by omega)).1 (hski i (by omega)).2)) (by rw [given_all]; rfl)) (fun p5 H5 np5 e5 h5 => ?_)
    have S5 := S4.same e5
    dsimp only [tSeq, tNext]
    refine s_asgCatL (p := p5) (ys := [.non, .non, .int (0 : Nat)]) (Evl.ev_var rfl) h5 (el_is (Evl.el_lcR1 (n := 3) (fun _ => true) (fun i => flatV (endD.getD i .non)) (Evl.ea_cons Evl.ev_c Evl.ea_nil) (by decide) (fun _ => rfl) (fun i H' e' hi => et_yes) (fun i H' e' hi _ => ev_service (j := i) (Evl.ev_var rfl) (Evl.ev_var rfl) (S5.same e') (li := endD) List.mem_cons_self (hend i (by omega)).1 (hend i (by omega)).2)) (by rw [given_all]; rfl)) (by show 6 ≤ 1000; decide) (fun p6 H6 e6 h6 => ?_)
    have S6 := S5.same e6
    -- repr
    have dT : Dq H6 (.ref p6) (.lst (tolD n)) := .lst h6 (.cons (.int _) (.cons .non (.cons (.int _) (.cons .non (.cons .non (.cons (.int _) .nil))))))
    have f1 := le4 hn (p := fun n => HX.D.nd (.lst (tolD n)) = true) (by decide +kernel)
    have f2 := le4 hn (p := fun n => (HX.D.py (.lst (tolD n))).showable = true) (by decide +kernel)
    have f3 := le4 hn (p := fun n => (HX.D.py (.lst (tolD n))).hasDict = false) (by decide +kernel)
    have f4 := le4 hn (p := fun n => (HX.D.py (.lst (tolD n))).depth ≤ 64) (by decide +kernel)
    have f5 := le4 hn (p := fun n => (HX.D.py (.lst (tolD n))).shown.length ≤ 1000) (by decide +kernel)
    have f6 : (HX.D.py (.lst (tolD n))).shown.length ≤ sizeLine := Evl.sz_of (Nat.le_trans f5 (by decide))
    dsimp only [tSeq, tNext]
    refine Evl.s_if (b := false) (Evl.et_is (Evl.et_test (Evl.ev_op (ev_repr (ds := tolD n) (eq_var rfl (Dq.no dT)) f1 f2 f3 f4 f6)
        (ev_repr (ds := tolD n) (eq_lst Tr.no (eqa_cons eq_int' (eqa_cons eq_non (eqa_cons (eq_var rfl (.int _)) (eqa_cons eq_non (eqa_cons eq_non (eqa_cons eq_int' eqa_nil)))))) (by show 6 ≤ 1000; decide)) f1 f2 f3 f4 f6) (Evl.rv_ne rfl))) (by simp)) (fun z _ _ => nomatch z) (fun _ H7 e7 => ?_)
    have S7 := S6.same e7
    -- other
    have d7 : Dq H7 v0 (.dic (kdT n)) := d0.same (Same.trans (Same.trans (Same.trans (Same.trans (Same.trans e2 e3) e4) e5) e6) e7)
    dsimp only [tSeq, tNext]
    refine s_asgX (ex_sys (sw := swO n) (l := kdT n) (ks0 := ksT n) (eq_lst Tr.no (eqa_cons (eq_lst Tr.no (eqa_cons eq_int' (eqa_cons eq_int' (eqa_cons eq_int' eqa_nil))) (by show 3 ≤ 1000; decide)) (eqa_cons (eq_lst Tr.no (eqa_cons (eq_var rfl (.int _)) (eqa_cons eq_int' (eqa_cons eq_int' eqa_nil))) (by show 3 ≤ 1000; decide)) (eqa_cons (eq_lst Tr.no (eqa_cons eq_int' (eqa_cons eq_int' (eqa_cons eq_int' eqa_nil))) (by show 3 ≤ 1000; decide)) eqa_nil))) (by show 3 ≤ 1000; decide))
      (fun H' s' => eq_var rfl (Dq.no (d7.same s'))) (le4 hn (p := fun n => areSw (.lst ((swO n).map .lst)) = true) (by decide +kernel)) (le4 hn (p := fun n => areKi (swO n).length (.dic (kdT n)) = true) (by decide +kernel)) (le4 hn (p := fun n => kvOk (.dic (kdT n)) = true) (by decide +kernel)) (fun ks hk => kinds_two (.inl rfl) hk)) (fun v8 H8 e8 hv8 => ?_)
    obtain ⟨y, rfl, hY⟩ := hv8
    have S8 := S7.same e8
    have g1 := le4 hn (p := fun n => ndAll ((swT n).map .lst) = true) (by decide +kernel)
    have g2 := le4 hn (p := fun n => ndAll ((swO n).map .lst) = true) (by decide +kernel)
    have g3 := le4 hn (p := fun n => SeqAt.shaped (.list (pyAll ((swT n).map .lst))) = true) (by decide +kernel)
    have g4 := le4 hn (p := fun n => SeqAt.shaped (.list (pyAll ((swO n).map .lst))) = true) (by decide +kernel)
    have g5 := le4 hn (p := fun n => PyData.eqv (.list (pyAll ((swT n).map .lst))) (.list (pyAll ((swO n).map .lst))) = false) (by decide +kernel)
    have g6 := le4 hn (p := fun n => PyData.eqv (.list (pyAll ((swT n).map .lst))) (.list (pyAll ((swT n).map .lst))) = true) (by decide +kernel)
    have g7 := le4 hn (p := fun n => ((ksT n).all fun p => p.2.all HX.D.flat) = true) (by decide +kernel)
    refine Evl.s_ret (v := .bl true) (Evl.ev_is (Evl.ev_andV (a := true) (b := true)
        (Evl.ev_is (Evl.ev_op (ev_sysEq (b := false) (Evl.ev_var rfl) S8 (fun H' s' Q' q' => ⟨_, rfl, q' _ H' (Same.refl _) ⟨y, rfl, hY.same s'⟩⟩) g1 g2 g3 g4 (.inl ⟨g5, rfl⟩)) Evl.ev_c rv_isB) rfl)
        (fun _ => ev_sysEq (b := true) (Evl.ev_var rfl) S8 (ex_sys (sw := swT n) (ks0 := ksT n) (eq_switches (Evl.ev_var rfl) S8 (by show 3 ≤ 100; decide)) (fun H' s' => eq_kinds (Evl.ev_var rfl) (S8.same s') (by show 2 ≤ 100; decide))
            (le4 hn (p := fun n => areSw (.lst ((swT n).map .lst)) = true) (by decide +kernel)) (le4 hn (p := fun n => areKi (swT n).length (.dic ((ksT n).map fun q => (.inr q.1, .lst q.2))) = true) (by decide +kernel)) (le4 hn (p := fun n => kvOk (.dic ((ksT n).map fun q => (.inr q.1, .lst q.2))) = true) (by decide +kernel)) (fun ks hk => kinds_two (.inr rfl) hk)) g1 g1 g3 g3 (.inr ⟨g6, rfl, g7, rfl⟩))) rfl) (fun H9 e9 => ?_)
    exact q H9 (Same.trans (Same.trans (Same.trans (Same.trans (Same.trans (Same.trans (Same.trans (Same.trans e0 e2) e3) e4) e5) e6) e7) e8) e9)
end
end K04

set_option maxRecDepth 100000
set_option maxHeartbeats 3000000
namespace K04
open PySem PySem.Spec PyProof.Rows L2 HX
abbrev sLaw : Stmt := topS 29
theorem scL : FnScope ["script", "switches", "due", "kinds", "k"] ["script"] (defScope sLaw) := ⟨rfl, rfl, rfl, by decide +kernel, rfl, by decide +kernel, by decide +kernel⟩
def kd2 : HX.D := .dic [(.inr "a", .lst [.int 0, .int 1]), (.inr "b", .lst [.non, .int 0])]
def sq2 : HX.D := .lst [.lst [.int 0, .int 3], .lst [.int 0, .int 0]]
def okS : HX.D → Bool
  | .tup [d, .str due] => decide (said d kd2 = due) && (!decide (due = "s") || decide (said d (.dic []) = "s"))
  | _ => false
def okK : HX.D → Bool
  | .tup [d, .str due] => kvOk d && decide (said sq2 d = due)
  | _ => false
theorem tblS_ok : tblS.all okS = true := by decide +kernel
theorem tblA_ok : tblA.all okK = true := by decide +kernel
theorem tblB_ok : tblB.all okK = true := by decide +kernel
theorem DqAll.mem {H : Hp} {xs : List V} {ds : List HX.D} {y : V} (h : DqAll H xs ds) (hy : y ∈ xs) : ∃ d, d ∈ ds ∧ Dq H y d := by
  obtain ⟨i, hi, rfl⟩ := List.getElem_of_mem hy
  obtain ⟨d, hd, hq⟩ := h.get (List.getElem?_eq_getElem hi)
  exact ⟨d, List.mem_of_getElem? hd, hq⟩
theorem okS_inv {d : HX.D} (h : okS d = true) : ∃ d0 due, d = .tup [d0, .str due] ∧ said d0 kd2 = due ∧ (due = "s" → said d0 (.dic []) = "s") := by
  unfold okS at h
  split at h
  · rename_i d0 due
    rw [Bool.and_eq_true_iff, Bool.or_eq_true_iff] at h
    refine ⟨d0, due, rfl, of_decide_eq_true h.1, fun e => ?_⟩
    rcases h.2 with z | z
    · rw [decide_eq_true e] at z; cases z
    · exact of_decide_eq_true z
  · cases h
theorem okK_inv {d : HX.D} (h : okK d = true) : ∃ d0 due, d = .tup [d0, .str due] ∧ kvOk d0 = true ∧ said sq2 d0 = due := by
  unfold okK at h
  split at h
  · rename_i d0 due
    rw [Bool.and_eq_true_iff] at h
    exact ⟨d0, due, rfl, h.1, of_decide_eq_true h.2⟩
  · cases h
section
variable {P : Program} {w : World} {K : PySem.W.Frag} {mg : Str → Option Value} {base : Heap} {σ : L2.St} {H : Hp} {ta tb : TE}
theorem ev_said {d1 d2 : HX.D} {E : XK} (ha : EvQ noA ta σ H d1) (hb : ∀ H1, Same H H1 → EvQ noA tb σ H1 d2) (hk : kvOk d2 = true) : Evl.Ev (tCall (spSaid2 P w) [] E (tCons ta (tCons tb tNil))) σ H (.str (said d1 d2)) := fun H1 e1 Q q =>
  ha H1 e1 _ fun v1 H2 e2 h1 => hb H2 (Same.trans e1 e2) H2 (Same.refl H2) _ fun v2 H3 e3 h2 => by
    rw [mask_no] at h1 h2
    exact .inl ⟨v1, v2, d1, d2, rfl, h1.same e3, h2, hk, fun H' s' => q H' (Same.trans (Same.trans e2 e3) s')⟩
theorem ev_saidO {l : List HX.D} {v : V} {E : XK} (ha : EvQ noA ta σ H (.lst l)) (hb : ∀ H1, Same H H1 → Evl.Ev tb σ H1 v) (hv : OddAt P w H v) (c1 : areSw (.lst l) = true) (c2 : l.length = 2) : Evl.Ev (tCall (spSaid2 P w) [] E (tCons ta (tCons tb tNil))) σ H (.str "k") := fun H1 e1 Q q =>
  ha H1 e1 _ fun v1 H2 e2 h1 => hb H2 (Same.trans e1 e2) H2 (Same.refl H2) _ fun H3 e3 => by
    rw [mask_no] at h1
    exact .inr ⟨v1, v, l, rfl, h1.same e3, c1, c2, hv.same (Same.trans (Same.trans e1 e2) e3), fun H' s' => q H' (Same.trans (Same.trans e2 e3) s')⟩
def cut4 (n : Int) : Int := if n < 4 then n else 4
def cut1 (n : Int) : Int := if n > 1 then n else 1
theorem ev_rng {a : Addr} {xs : List V} (h : Evl.Ev ta σ H (.ref a)) (hs : SqL K H a xs) :
    Evl.Ev (tCB (fun xs H Q => ∃ i j, xs = [.int i, .int j] ∧ Q (.int (if j > i then j else i)) H) (tCons (tC (.int 1)) (tCons (tCB (fun xs H Q => ∃ i j, xs = [.int i, .int j] ∧ Q (.int (if j < i then j else i)) H) (tCons (tC (.int 4)) (tCons (tCB (rLenK K) (tCons ta tNil)) tNil))) tNil))) σ H (.int (cut1 (cut4 (xs.length : Int)))) := fun H1 e1 Q q =>
  ev_lenK h (.inl hs) H1 e1 _ fun H2 e2 => ⟨4, (xs.length : Int), rfl, 1, cut4 (xs.length : Int), rfl, q H2 e2⟩
def spLaw (K : PySem.W.Frag) : Sp := fun vs H Q _ => ∃ (a : Addr) (ns : List Int), vs = [.ref a] ∧ SqL K H a (ns.map V.int) ∧ ∀ H', Q (.bl true) H'
theorem ok_law {f fN C CS CK fI fNm fW fF fK fS fA fY fw fs fws fks fq ffe fta fsa fsw fki fto : Addr} {fd fdN dI dN dW dF dK dS dA dY dw ds dws dks dq dfe dta dsa dsw dki dto : FuncData} (F : L2.Fun K "law" "law" sLaw f fd) (T : Bt mg) (T2 : Bt2 mg) (hrp : mg "repr" = none) (S : Sy K mg fI fNm fW fF fK fS fA fY dI dN dW dF dK dS dA dY) (c : SysC K mg C) (ci : SysI K C) (eS : ErrC K mg "BadSwitches" CS) (eK : ErrC K mg "BadKinds" CK) (em : ErrM K CS CK)
    (M : Mk K C fN) (FN : L2.Fun K "__init__" "System.__init__" sInit fN fdN) (bN : Binds K fdN ["self", "switches", "kinds"] []) (mw : Md K C "switch" "System.switch" sSwitch ["self", "first", "second"] fw dw) (ms : Md K C "service" "System.service" sService ["self", "kind", "mode"] fs ds)
    (mws : Md K C "switches" "System.switches" sSwitches ["self"] fws dws) (mks : Md K C "kinds" "System.kinds" sKinds ["self"] fks dks) (mq : Md K C "__eq__" "System.__eq__" sEq ["self", "other"] fq dq)
    (cfe : Cd K mg "_law_feed" sFeed ["script", "k"] ffe dfe) (cta : Cd K mg "_law_take" sTake ["feed", "many"] fta dta) (csa : Cd K mg "_law_said" sSaid ["switches", "kinds"] fsa dsa) (csw : Cd K mg "_law_switches" sSws [] fsw dsw) (cki : Cd K mg "_law_kinds" sKis [] fki dki) (cto : Cd K mg "_law_told_right" sTold ["number"] fto dto) :
    FnG P w K mg base CX0 8 f fd ["script"] (spLaw K) := by
  have Gfe : FnOk P w K mg base CX0 7 ffe dfe ["script", "k"] (spFeed K) := ok_feed (k := 6) cfe.F T T2
  have Gta : FnOk P w K mg base CX0 7 fta dta ["feed", "many"] spTake := ok_take (k := 6) cta.F T
  have Gsa : FnOk P w K mg base CX0 7 fsa dsa ["switches", "kinds"] (spSaid2 P w) := ok_said2 (k := 0) csa.F T S c eS eK em M FN bN
  have Gsw : FnOk P w K mg base CX0 7 fsw dsw [] (spTbl (.lst tblS)) := ok_sws (k := 6) csw.F T
  have Gki : FnOk P w K mg base CX0 7 fki dki [] (spTblK P w) := ok_kis (k := 6) cki.F T
  have Gto : FnG P w K mg base CX0 7 fto dto ["number"] spTold := ok_told (k := 0) cto.F T hrp S c ci eS eK M FN bN mw ms mws mks mq
  refine Fun.okG F scL (fun vs H Q E h => ?_) (fun cdv A outer s H vs Q E hr hG h => ?_)
  · obtain ⟨a, ns, rfl, _⟩ := h
    rfl
  · obtain ⟨a, ns, rfl, hS, q⟩ := h
    refine ⟨_, pss_cons (ps_for PassesOwn.never rfl (pi_list (pe_call0 Gsw hr (by rfl) csw.g csw.F.kp csw.b .nil pass0)) (pg_tup rfl (pgs_cons (pg_name (i := 1) scL.nd rfl (Or.inl rfl)) (pgs_cons (pg_name (i := 2) scL.nd rfl (Or.inl rfl)) pgs_nil)))
        (pss_cons (ps_if (pt_cmpR op_ne (pe_call Gsa hr (by rfl) csa.g csa.F.kp csa.b .nil pass0 (pa_cons (pv 1) (pa_cons (pe_disp (pps_cons pe_str (pe_lst (pa_cons pe_int (pa_cons pe_int pa_nil))) (pps_cons pe_str (pe_lst (pa_cons pe_non (pa_cons pe_int pa_nil))) pps_nil)) (by rfl) (by rfl) (fun z => by cases z) (by decide)) pa_nil))) (pv 2) (nomark _)) (pss_one (ps_ret pe_bl)) pss_nil)
        (pss_one (ps_if (PW.pt (pw_and (pt_cmpR op_eq (pv 2) pe_str (nomark _)) (pw_and1 (pt_cmpR op_ne (pe_call Gsa hr (by rfl) csa.g csa.F.kp csa.b .nil pass0 (pa_cons (pv 1) (pa_cons pe_dnewK pa_nil))) pe_str (nomark _))))) (pss_one (ps_ret pe_bl)) pss_nil))))
      (pss_cons (ps_for PassesOwn.never rfl (pi_list (pe_call0 Gki hr (by rfl) cki.g cki.F.kp cki.b .nil pass0)) (pg_tup rfl (pgs_cons (pg_name (i := 3) scL.nd rfl (Or.inl rfl)) (pgs_cons (pg_name (i := 2) scL.nd rfl (Or.inl rfl)) pgs_nil)))
        (pss_one (ps_if (pt_cmpR op_ne (pe_call Gsa hr (by rfl) csa.g csa.F.kp csa.b .nil pass0 (pa_cons (pe_lst (pa_cons (pe_lst (pa_cons pe_int (pa_cons pe_int pa_nil))) (pa_cons (pe_lst (pa_cons pe_int (pa_cons pe_int pa_nil))) pa_nil))) (pa_cons (pv 3) pa_nil))) (pv 2) (nomark _)) (pss_one (ps_ret pe_bl)) pss_nil)))
      (pss_cons (ps_for PassesOwn.never rfl (pi_range1 rfl T.range (pa_cons (pe_callB (call_max2 rfl) (by rfl) T2.max (by decide +kernel) (pa_cons pe_int (pa_cons (pe_callB (call_min2 rfl) (by rfl) T2.min (by decide +kernel) (pa_cons pe_int (pa_cons (pe_callB (lenK K) (by rfl) T.len PySem.boot_len (pa_cons (pv 0) pa_nil)) pa_nil))) pa_nil))) pa_nil)) (pg_name (i := 4) scL.nd rfl (Or.inl rfl))
        (pss_one (ps_if (pt_not (pt_val (pe_callG Gto hr hG (by rfl) cto.g cto.F.kp cto.b pass0 (pa_cons (pe_call Gta hr (by rfl) cta.g cta.F.kp cta.b .nil pass0 (pa_cons (pe_call Gfe hr (by rfl) cfe.g cfe.F.kp cfe.b .nil pass0 (pa_cons (pv 0) (pa_cons (pv 4) pa_nil))) (pa_cons pe_int pa_nil))) pa_nil)))) (pss_one (ps_ret pe_bl)) pss_nil)))
      (pss_one (ps_ret pe_bl)))), ?_⟩
    have lA : ("a" : Str).length ≤ 1000 := by decide +kernel
    have lB : ("b" : Str).length ≤ 1000 := by decide +kernel
    -- for switches, due in _law_switches()
    refine ⟨rfl, fun v H1 s1 d1 => ?_⟩
    obtain ⟨p, xs, rfl, hp, hx⟩ := d1.lst_inv
    refine ⟨p, rfl, ⟨xs, Evl.sq_of hp⟩, for_list (K := K) (a := p) (xs := xs) (fun i σ H2 => ∃ v1 v2, σ = [some (.ref a), v1, v2, none, none] ∧ Same H1 H2) ⟨none, none, rfl, Same.refl _⟩ (fun i σ H2 _ ⟨_, _, _, s2⟩ => Evl.sq_of (s2 _ _ hp)) ?_ ?_⟩
    · rintro i y σ H2 hi ⟨v1, v2, rfl, s2⟩
      obtain ⟨d, hd, hq⟩ := hx.get hi
      obtain ⟨d0, due, rfl, hsd, hds⟩ := okS_inv (List.all_eq_true.mp tblS_ok d (List.mem_of_getElem? hd))
      obtain ⟨t, ys, rfl, ht, hy⟩ := (hq.same s2).tup_inv
      cases hy with
      | cons h1 hy =>
      cases hy with
      | cons h2 hy =>
      cases hy
      cases h2 with
      | str _ hl =>
      rename_i u1
      refine ⟨t, _, rfl, Evl.st_of ht, rfl, _, _, rfl, _, _, rfl, rfl, ?_⟩
      refine Evl.s_if (b := false) (Evl.et_is (Evl.et_test (Evl.ev_op (ev_said (d1 := d0) (d2 := kd2) (eq_var rfl (Dq.no h1)) (fun H' s' => eq_disp Tr.no (by decide +kernel) (by decide) (fun A' H' e' t' =>
          eqp_cons (k := .inr "a") (fun _ => .str _ lA) (eq_lst t' (eqa_cons eq_int' (eqa_cons eq_int' eqa_nil)) (by decide)) (eqp_cons (k := .inr "b") (fun _ => .str _ lB) (eq_lst t' (eqa_cons eq_non (eqa_cons eq_int' eqa_nil)) (by decide)) eqp_nil))) (by decide +kernel))
          (Evl.ev_var rfl) (Evl.rv_ne rfl))) (by rw [hsd]; simp)) (fun z _ _ => nomatch z) (fun _ H3 e3 => ?_)
      dsimp only [tSeq, tNext]
      refine Evl.s_if (b := false) (Evl.et_is (Evl.et_and (a := decide (V.str due = V.str "s")) (b := false) (Evl.et_test (Evl.ev_op (Evl.ev_var rfl) Evl.ev_c (Evl.rv_eq rfl))) (fun hz => Evl.et_is (Evl.et_test (Evl.ev_op (ev_said (d1 := d0) (d2 := .dic []) (eq_var rfl (Dq.no (h1.same e3))) (fun H' s' => eq_dnew Tr.no) (by decide +kernel)) Evl.ev_c (Evl.rv_ne rfl))) (by rw [hds (V.str.inj (of_decide_eq_true hz))]; simp))) (Bool.and_false _)) (fun z _ _ => nomatch z) (fun _ H4 e4 => ?_)
      exact ⟨some u1, some (.str due), rfl, Same.trans (Same.trans s2 e3) e4⟩
    · rintro σ H2 ⟨v1, v2, rfl, s2⟩
      -- for kinds, due in _law_kinds()
      refine ⟨rfl, fun p2 xs2 x ys2 H3 s3 hp2 hx2 ho2 hy2 => ?_⟩
      refine ⟨p2, rfl, ⟨_, Evl.sq_of hp2⟩, for_list (K := K) (a := p2) (xs := (xs2 ++ [x]) ++ ys2) (fun i σ H4 => ∃ w2 w3, σ = [some (.ref a), v1, w2, w3, none] ∧ Same H3 H4) ⟨v2, none, rfl, Same.refl _⟩ (fun i σ H4 _ ⟨_, _, _, s4⟩ => Evl.sq_of (s4 _ _ hp2)) ?_ ?_⟩
      · rintro i y σ H4 hi ⟨w2, w3, rfl, s4⟩
        have within := List.mem_of_getElem? hi
        have row : (∃ d, okK d = true ∧ Dq H3 y d) ∨ y = x := by
          rcases List.mem_append.mp within with ahead | hm
          · rcases List.mem_append.mp ahead with hm | hm
            · obtain ⟨d, hd, hq⟩ := DqAll.mem hx2 hm
              exact .inl ⟨d, List.all_eq_true.mp tblA_ok d hd, hq⟩
            · exact .inr (List.mem_singleton.mp hm)
          · obtain ⟨d, hd, hq⟩ := DqAll.mem hy2 hm
            exact .inl ⟨d, List.all_eq_true.mp tblB_ok d hd, hq⟩
        rcases row with ⟨d, hok, hq⟩ | rfl
        · obtain ⟨d0, due, rfl, hkv, hsd⟩ := okK_inv hok
          obtain ⟨t, ys, rfl, ht, hy⟩ := (hq.same s4).tup_inv
          cases hy with
          | cons h1 hy =>
          cases hy with
          | cons h2 hy =>
          cases hy
          cases h2 with
          | str _ hl =>
          rename_i u1
          refine ⟨t, _, rfl, Evl.st_of ht, rfl, _, _, rfl, _, _, rfl, rfl, ?_⟩
          refine Evl.s_if (b := false) (Evl.et_is (Evl.et_test (Evl.ev_op (ev_said (d1 := sq2) (d2 := d0) (eq_lst Tr.no (eqa_cons (eq_lst Tr.no (eqa_cons eq_int' (eqa_cons eq_int' eqa_nil)) (by decide)) (eqa_cons (eq_lst Tr.no (eqa_cons eq_int' (eqa_cons eq_int' eqa_nil)) (by decide)) eqa_nil)) (by decide)) (fun H' s' => eq_var rfl (Dq.no (h1.same s'))) hkv) (Evl.ev_var rfl) (Evl.rv_ne rfl))) (by rw [hsd]; simp)) (fun z _ _ => nomatch z) (fun _ H5 e5 => ?_)
          exact ⟨some (.str due), some u1, rfl, Same.trans s4 e5⟩
        · obtain ⟨t, o, rfl, ht, hodd⟩ := ho2.same s4
          refine ⟨t, _, rfl, Evl.st_of ht, rfl, _, _, rfl, _, _, rfl, rfl, ?_⟩
          refine Evl.s_if (b := false) (Evl.et_is (Evl.et_test (Evl.ev_op (ev_saidO (l := [.lst [.int 0, .int 3], .lst [.int 0, .int 0]]) (eq_lst Tr.no (eqa_cons (eq_lst Tr.no (eqa_cons eq_int' (eqa_cons eq_int' eqa_nil)) (by decide)) (eqa_cons (eq_lst Tr.no (eqa_cons eq_int' (eqa_cons eq_int' eqa_nil)) (by decide)) eqa_nil)) (by decide)) (fun H' s' => Evl.ev_var rfl) hodd (by decide +kernel) rfl) (Evl.ev_var rfl) (Evl.rv_ne rfl))) (by simp)) (fun z _ _ => nomatch z) (fun _ H5 e5 => ?_)
          exact ⟨some (.str "k"), some o, rfl, Same.trans s4 e5⟩
      · rintro σ H4 ⟨w2, w3, rfl, s4⟩
        have hS4 : SqL K H4 a (ns.map V.int) := Same.seq (Same.trans (Same.trans (Same.trans s1 s2) s3) s4) hS
        -- for k in range(..)
        refine Evl.s_forR1 (n := cut1 (cut4 ((ns.map V.int).length : Int))) (Evl.ea_cons (ev_rng (Evl.ev_var rfl) hS4) Evl.ea_nil)
          ⟨by unfold cut1 cut4; split <;> split <;> omega, by unfold cut1 cut4; split <;> split <;> omega⟩ (fun i σ H5 => ∃ z, σ = [some (.ref a), v1, w2, w3, z] ∧ Same H4 H5) (fun H5 e5 => ⟨none, rfl, e5⟩) ?_ ?_
        · rintro i σ H5 hi ⟨z, rfl, s5⟩
          refine Evl.s_if (b := false) (Evl.et_is (Evl.et_not (Evl.et_B (b := true) (fun H6 e6 Q6 q6 => ?_))) rfl) (fun z _ _ => nomatch z) (fun _ H6 e6 => ⟨some (.int (i : Int)), rfl, Same.trans s5 e6⟩)
          refine ⟨_, rfl, _, rfl, a, ns, i, rfl, Same.seq (Same.trans s5 e6) hS4, fun p7 H7 np7 e7 f7 => ?_⟩
          refine ⟨p7, 5, rfl, f7, by decide, by decide, fun r H8 r0 r1 b8 f8 => ?_⟩
          refine ⟨r.toNat, by rw [Int.toNat_of_nonneg r0]; rfl, by omega, fun H9 e9 => q6 H9 (fun b o hb => e9 _ _ (b8 b o (ne_of_none hb np7) (e7 _ _ hb)))⟩
        · rintro σ H5 ⟨z, rfl, s5⟩
          exact q H5
end
end K04

set_option maxRecDepth 100000
set_option maxHeartbeats 3000000
namespace K04
open PySem PySem.Spec PyProof.Rows L2 HX
theorem kit_self {K : PySem.W.Frag} {C : Addr} : PySem.W.kitOne K (.ref C) (.ref C) = some true := if_pos (beq_iff_eq.mpr rfl)
/-- what «except S» says of an error of the class at A -/
theorem exm_of {K : PySem.W.Frag} {A S : Addr} {b : Bool} (h1 : PySem.W.subIn K (.ref S) (.type "BaseException") = some true) (h2 : PySem.W.isClsIn K S = true) (h3 : PySem.W.typeIn K (.ref S) = some (.type "type")) (h4 : PySem.W.subIn K (.ref A) (.ref S) = some b) : PySem.W.exmOne K (.ref A) (.ref S) = some b := by
  have g1 : (PySem.W.subIn K (.ref S) (.type "BaseException") == some true) = true := by rw [h1] <;> rfl
  have g2 : ((PySem.W.clsIn K S).isSome && PySem.W.typeIn K (.ref S) == some (.type "type")) = true := by
    have z : (PySem.W.clsIn K S).isSome = true := h2
    rw [z, h3] <;> rfl
  show (if (PySem.W.subIn K (.ref S) (.type "BaseException") == some true) = true then (if ((PySem.W.clsIn K S).isSome && PySem.W.typeIn K (.ref S) == some (.type "type")) = true then PySem.W.subIn K (.ref A) (.ref S) else none) else none) = some b
  rw [if_pos g1, if_pos g2, h4]
theorem all_mk {l : PySem.W.OpenLaw} {w : World} {K : PySem.W.Frag} {h : Heap} {mg : Str → Option Value} {fa : Addr} (X : K.In h) (G : h.Ns mainGlobals mg) (hfa : mg "law" = some (.ref fa))
    {fT : Addr} {odfT anfT : Option Addr} {slfT : Array (Option Value)} {ocfT kVfT dcfT pmfT cdfT ctfT : Value}
    {fI : Addr} {odfI anfI : Option Addr} {slfI : Array (Option Value)} {ocfI kVfI dcfI pmfI cdfI ctfI : Value}
    {fNm : Addr} {odfNm anfNm : Option Addr} {slfNm : Array (Option Value)} {ocfNm kVfNm dcfNm pmfNm cdfNm ctfNm : Value}
    {fW : Addr} {odfW anfW : Option Addr} {slfW : Array (Option Value)} {ocfW kVfW dcfW pmfW cdfW ctfW : Value}
    {fF : Addr} {odfF anfF : Option Addr} {slfF : Array (Option Value)} {ocfF kVfF dcfF pmfF cdfF ctfF : Value}
    {fK : Addr} {odfK anfK : Option Addr} {slfK : Array (Option Value)} {ocfK kVfK dcfK pmfK cdfK ctfK : Value}
    {fS : Addr} {odfS anfS : Option Addr} {slfS : Array (Option Value)} {ocfS kVfS dcfS pmfS cdfS ctfS : Value}
    {fA : Addr} {odfA anfA : Option Addr} {slfA : Array (Option Value)} {ocfA kVfA dcfA pmfA cdfA ctfA : Value}
    {fY : Addr} {odfY anfY : Option Addr} {slfY : Array (Option Value)} {ocfY kVfY dcfY pmfY cdfY ctfY : Value}
    {ffe : Addr} {odffe anffe : Option Addr} {slffe : Array (Option Value)} {ocffe kVffe dcffe pmffe cdffe ctffe : Value}
    {fta : Addr} {odfta anfta : Option Addr} {slfta : Array (Option Value)} {ocfta kVfta dcfta pmfta cdfta ctfta : Value}
    {fsa : Addr} {odfsa anfsa : Option Addr} {slfsa : Array (Option Value)} {ocfsa kVfsa dcfsa pmfsa cdfsa ctfsa : Value}
    {fsw : Addr} {odfsw anfsw : Option Addr} {slfsw : Array (Option Value)} {ocfsw kVfsw dcfsw pmfsw cdfsw ctfsw : Value}
    {fki : Addr} {odfki anfki : Option Addr} {slfki : Array (Option Value)} {ocfki kVfki dcfki pmfki cdfki ctfki : Value}
    {fto : Addr} {odfto anfto : Option Addr} {slfto : Array (Option Value)} {ocfto kVfto dcfto pmfto cdfto ctfto : Value}
    {fla : Addr} {odfla anfla : Option Addr} {slfla : Array (Option Value)} {ocfla kVfla dcfla pmfla cdfla ctfla : Value}
    {C : Addr}
    {fN : Addr} {odfN anfN : Option Addr} {slfN : Array (Option Value)} {ocfN kVfN dcfN pmfN cdfN ctfN : Value}
    {fq : Addr} {odfq anfq : Option Addr} {slfq : Array (Option Value)} {ocfq kVfq dcfq pmfq cdfq ctfq : Value}
    {fw : Addr} {odfw anfw : Option Addr} {slfw : Array (Option Value)} {ocfw kVfw dcfw pmfw cdfw ctfw : Value}
    {fs : Addr} {odfs anfs : Option Addr} {slfs : Array (Option Value)} {ocfs kVfs dcfs pmfs cdfs ctfs : Value}
    {fws : Addr} {odfws anfws : Option Addr} {slfws : Array (Option Value)} {ocfws kVfws dcfws pmfws cdfws ctfws : Value}
    {fks : Addr} {odfks anfks : Option Addr} {slfks : Array (Option Value)} {ocfks kVfks dcfks pmfks cdfks ctfks : Value}
    {CS : Addr}
    {CK : Addr}
    {tL : Tok}
    {tM : Tok}
    {tK : Tok}
    {tC : Tok}
    {tF : Tok}
    (afT : PySem.W.nsIn K mainGlobals "is_integer" = some (some (.ref fT)))
    (lfT : K.lookup fT = some ⟨ocfT, odfT, .func (PySem.W.fnOf "is_integer" "is_integer" (defArgs sInt) (defBody sInt) (defScope sInt) .none kVfT dcfT pmfT anfT cdfT ctfT), slfT⟩)
    (cfT : PySem.W.codeIn K cdfT "is_integer" = true)
    (kfT : PySem.W.keepIn K (.ref fT) = true)
    (afI : PySem.W.nsIn K mainGlobals "is_integer_within" = some (some (.ref fI)))
    (lfI : K.lookup fI = some ⟨ocfI, odfI, .func (PySem.W.fnOf "is_integer_within" "is_integer_within" (defArgs sIsInt) (defBody sIsInt) (defScope sIsInt) .none kVfI dcfI pmfI anfI cdfI ctfI), slfI⟩)
    (cfI : PySem.W.codeIn K cdfI "is_integer_within" = true)
    (kfI : PySem.W.keepIn K (.ref fI) = true)
    (afNm : PySem.W.nsIn K mainGlobals "is_name" = some (some (.ref fNm)))
    (lfNm : K.lookup fNm = some ⟨ocfNm, odfNm, .func (PySem.W.fnOf "is_name" "is_name" (defArgs sIsName) (defBody sIsName) (defScope sIsName) .none kVfNm dcfNm pmfNm anfNm cdfNm ctfNm), slfNm⟩)
    (cfNm : PySem.W.codeIn K cdfNm "is_name" = true)
    (kfNm : PySem.W.keepIn K (.ref fNm) = true)
    (afW : PySem.W.nsIn K mainGlobals "are_switches" = some (some (.ref fW)))
    (lfW : K.lookup fW = some ⟨ocfW, odfW, .func (PySem.W.fnOf "are_switches" "are_switches" (defArgs sSw) (defBody sSw) (defScope sSw) .none kVfW dcfW pmfW anfW cdfW ctfW), slfW⟩)
    (cfW : PySem.W.codeIn K cdfW "are_switches" = true)
    (kfW : PySem.W.keepIn K (.ref fW) = true)
    (afF : PySem.W.nsIn K mainGlobals "are_switches_from" = some (some (.ref fF)))
    (lfF : K.lookup fF = some ⟨ocfF, odfF, .func (PySem.W.fnOf "are_switches_from" "are_switches_from" (defArgs sSwF) (defBody sSwF) (defScope sSwF) .none kVfF dcfF pmfF anfF cdfF ctfF), slfF⟩)
    (cfF : PySem.W.codeIn K cdfF "are_switches_from" = true)
    (kfF : PySem.W.keepIn K (.ref fF) = true)
    (afK : PySem.W.nsIn K mainGlobals "are_kinds" = some (some (.ref fK)))
    (lfK : K.lookup fK = some ⟨ocfK, odfK, .func (PySem.W.fnOf "are_kinds" "are_kinds" (defArgs sKi) (defBody sKi) (defScope sKi) .none kVfK dcfK pmfK anfK cdfK ctfK), slfK⟩)
    (cfK : PySem.W.codeIn K cdfK "are_kinds" = true)
    (kfK : PySem.W.keepIn K (.ref fK) = true)
    (afS : PySem.W.nsIn K mainGlobals "are_services" = some (some (.ref fS)))
    (lfS : K.lookup fS = some ⟨ocfS, odfS, .func (PySem.W.fnOf "are_services" "are_services" (defArgs sSe) (defBody sSe) (defScope sSe) .none kVfS dcfS pmfS anfS cdfS ctfS), slfS⟩)
    (cfS : PySem.W.codeIn K cdfS "are_services" = true)
    (kfS : PySem.W.keepIn K (.ref fS) = true)
    (afA : PySem.W.nsIn K mainGlobals "arrival" = some (some (.ref fA)))
    (lfA : K.lookup fA = some ⟨ocfA, odfA, .func (PySem.W.fnOf "arrival" "arrival" (defArgs sArr) (defBody sArr) (defScope sArr) .none kVfA dcfA pmfA anfA cdfA ctfA), slfA⟩)
    (cfA : PySem.W.codeIn K cdfA "arrival" = true)
    (kfA : PySem.W.keepIn K (.ref fA) = true)
    (afY : PySem.W.nsIn K mainGlobals "ways_of_serving" = some (some (.ref fY)))
    (lfY : K.lookup fY = some ⟨ocfY, odfY, .func (PySem.W.fnOf "ways_of_serving" "ways_of_serving" (defArgs sWay) (defBody sWay) (defScope sWay) .none kVfY dcfY pmfY anfY cdfY ctfY), slfY⟩)
    (cfY : PySem.W.codeIn K cdfY "ways_of_serving" = true)
    (kfY : PySem.W.keepIn K (.ref fY) = true)
    (affe : PySem.W.nsIn K mainGlobals "_law_feed" = some (some (.ref ffe)))
    (lffe : K.lookup ffe = some ⟨ocffe, odffe, .func (PySem.W.fnOf "_law_feed" "_law_feed" (defArgs sFeed) (defBody sFeed) (defScope sFeed) .none kVffe dcffe pmffe anffe cdffe ctffe), slffe⟩)
    (cffe : PySem.W.codeIn K cdffe "_law_feed" = true)
    (kffe : PySem.W.keepIn K (.ref ffe) = true)
    (afta : PySem.W.nsIn K mainGlobals "_law_take" = some (some (.ref fta)))
    (lfta : K.lookup fta = some ⟨ocfta, odfta, .func (PySem.W.fnOf "_law_take" "_law_take" (defArgs sTake) (defBody sTake) (defScope sTake) .none kVfta dcfta pmfta anfta cdfta ctfta), slfta⟩)
    (cfta : PySem.W.codeIn K cdfta "_law_take" = true)
    (kfta : PySem.W.keepIn K (.ref fta) = true)
    (afsa : PySem.W.nsIn K mainGlobals "_law_said" = some (some (.ref fsa)))
    (lfsa : K.lookup fsa = some ⟨ocfsa, odfsa, .func (PySem.W.fnOf "_law_said" "_law_said" (defArgs sSaid) (defBody sSaid) (defScope sSaid) .none kVfsa dcfsa pmfsa anfsa cdfsa ctfsa), slfsa⟩)
    (cfsa : PySem.W.codeIn K cdfsa "_law_said" = true)
    (kfsa : PySem.W.keepIn K (.ref fsa) = true)
    (afsw : PySem.W.nsIn K mainGlobals "_law_switches" = some (some (.ref fsw)))
    (lfsw : K.lookup fsw = some ⟨ocfsw, odfsw, .func (PySem.W.fnOf "_law_switches" "_law_switches" (defArgs sSws) (defBody sSws) (defScope sSws) .none kVfsw dcfsw pmfsw anfsw cdfsw ctfsw), slfsw⟩)
    (cfsw : PySem.W.codeIn K cdfsw "_law_switches" = true)
    (kfsw : PySem.W.keepIn K (.ref fsw) = true)
    (afki : PySem.W.nsIn K mainGlobals "_law_kinds" = some (some (.ref fki)))
    (lfki : K.lookup fki = some ⟨ocfki, odfki, .func (PySem.W.fnOf "_law_kinds" "_law_kinds" (defArgs sKis) (defBody sKis) (defScope sKis) .none kVfki dcfki pmfki anfki cdfki ctfki), slfki⟩)
    (cfki : PySem.W.codeIn K cdfki "_law_kinds" = true)
    (kfki : PySem.W.keepIn K (.ref fki) = true)
    (afto : PySem.W.nsIn K mainGlobals "_law_told_right" = some (some (.ref fto)))
    (lfto : K.lookup fto = some ⟨ocfto, odfto, .func (PySem.W.fnOf "_law_told_right" "_law_told_right" (defArgs sTold) (defBody sTold) (defScope sTold) .none kVfto dcfto pmfto anfto cdfto ctfto), slfto⟩)
    (cfto : PySem.W.codeIn K cdfto "_law_told_right" = true)
    (kfto : PySem.W.keepIn K (.ref fto) = true)
    (afla : PySem.W.nsIn K mainGlobals "law" = some (some (.ref fla)))
    (lfla : K.lookup fla = some ⟨ocfla, odfla, .func (PySem.W.fnOf "law" "law" (defArgs sLaw) (defBody sLaw) (defScope sLaw) .none kVfla dcfla pmfla anfla cdfla ctfla), slfla⟩)
    (cfla : PySem.W.codeIn K cdfla "law" = true)
    (kfla : PySem.W.keepIn K (.ref fla) = true)
    (aC : PySem.W.nsIn K mainGlobals "System" = some (some (.ref C)))
    (afN : PySem.W.findIn K (.ref C) "__init__" = some (some (.ref fN)))
    (ifN : PySem.W.isFn K (.ref fN) = true)
    (lfN : K.lookup fN = some ⟨ocfN, odfN, .func (PySem.W.fnOf "__init__" "System.__init__" (defArgs sInit) (defBody sInit) (defScope sInit) .none kVfN dcfN pmfN anfN cdfN ctfN), slfN⟩)
    (cfN : PySem.W.codeIn K cdfN "System.__init__" = true)
    (kfN : PySem.W.keepIn K (.ref fN) = true)
    (afq : PySem.W.findIn K (.ref C) "__eq__" = some (some (.ref fq)))
    (ifq : PySem.W.isFn K (.ref fq) = true)
    (lfq : K.lookup fq = some ⟨ocfq, odfq, .func (PySem.W.fnOf "__eq__" "System.__eq__" (defArgs sEq) (defBody sEq) (defScope sEq) .none kVfq dcfq pmfq anfq cdfq ctfq), slfq⟩)
    (cfq : PySem.W.codeIn K cdfq "System.__eq__" = true)
    (kfq : PySem.W.keepIn K (.ref fq) = true)
    (afw : PySem.W.findIn K (.ref C) "switch" = some (some (.ref fw)))
    (ifw : PySem.W.isFn K (.ref fw) = true)
    (lfw : K.lookup fw = some ⟨ocfw, odfw, .func (PySem.W.fnOf "switch" "System.switch" (defArgs sSwitch) (defBody sSwitch) (defScope sSwitch) .none kVfw dcfw pmfw anfw cdfw ctfw), slfw⟩)
    (cfw : PySem.W.codeIn K cdfw "System.switch" = true)
    (kfw : PySem.W.keepIn K (.ref fw) = true)
    (afs : PySem.W.findIn K (.ref C) "service" = some (some (.ref fs)))
    (ifs : PySem.W.isFn K (.ref fs) = true)
    (lfs : K.lookup fs = some ⟨ocfs, odfs, .func (PySem.W.fnOf "service" "System.service" (defArgs sService) (defBody sService) (defScope sService) .none kVfs dcfs pmfs anfs cdfs ctfs), slfs⟩)
    (cfs : PySem.W.codeIn K cdfs "System.service" = true)
    (kfs : PySem.W.keepIn K (.ref fs) = true)
    (afws : PySem.W.findIn K (.ref C) "switches" = some (some (.ref fws)))
    (ifws : PySem.W.isFn K (.ref fws) = true)
    (lfws : K.lookup fws = some ⟨ocfws, odfws, .func (PySem.W.fnOf "switches" "System.switches" (defArgs sSwitches) (defBody sSwitches) (defScope sSwitches) .none kVfws dcfws pmfws anfws cdfws ctfws), slfws⟩)
    (cfws : PySem.W.codeIn K cdfws "System.switches" = true)
    (kfws : PySem.W.keepIn K (.ref fws) = true)
    (afks : PySem.W.findIn K (.ref C) "kinds" = some (some (.ref fks)))
    (ifks : PySem.W.isFn K (.ref fks) = true)
    (lfks : K.lookup fks = some ⟨ocfks, odfks, .func (PySem.W.fnOf "kinds" "System.kinds" (defArgs sKinds) (defBody sKinds) (defScope sKinds) .none kVfks dcfks pmfks anfks cdfks ctfks), slfks⟩)
    (cfks : PySem.W.codeIn K cdfks "System.kinds" = true)
    (kfks : PySem.W.keepIn K (.ref fks) = true)
    (pgC : PySem.W.plainGet K C Str.empty = true)
    (hdC : PySem.W.hasDictIn K C = true)
    (poC : PySem.W.plainOver K C = true)
    (saC : PySem.W.findIn K (.ref C) "__setattr__" = some (some (.builtin "object.__setattr__")))
    (mkC : PySem.W.makesIn K C = true)
    (kcC : PySem.W.keepIn K (.ref C) = true)
    (n0C : PySem.W.findIn K (.ref C) "modes" = some none)
    (n1C : PySem.W.findIn K (.ref C) "names" = some none)
    (n2C : PySem.W.findIn K (.ref C) "_switches" = some none)
    (n3C : PySem.W.findIn K (.ref C) "_kinds" = some none)
    (n4C : PySem.W.findIn K (.ref C) "_arrivals" = some none)
    (n5C : PySem.W.findIn K (.ref C) "_ways" = some none)
    (ihaC : PySem.W.findIn K (.ref C) "__class__" = some (some (.builtin "object.__class__")))
    (ihmC : PySem.W.mroIn K C (.type "object") = some true)
    (ihn : PySem.W.specialIn K (.builtin "object.__class__") "__get__" = some (some (.builtin "getset_descriptor.__get__")))
    (iht : PySem.W.takesIn K (.builtin "object.__class__") = some true)
    (aCS : PySem.W.nsIn K mainGlobals "BadSwitches" = some (some (.ref CS)))
    (xCS : PySem.W.excIn K CS [.type "ValueError", .type "Exception", .type "BaseException", .type "object"] "ValueError.__new__" = true)
    (kCS : PySem.W.keepIn K (.ref CS) = true)
    (bCS : PySem.W.subIn K (.ref CS) (.type "BaseException") = some true)
    (tCS : PySem.W.typeIn K (.ref CS) = some (.type "type"))
    (iCS : PySem.W.isClsIn K CS = true)
    (aCK : PySem.W.nsIn K mainGlobals "BadKinds" = some (some (.ref CK)))
    (xCK : PySem.W.excIn K CK [.type "ValueError", .type "Exception", .type "BaseException", .type "object"] "ValueError.__new__" = true)
    (kCK : PySem.W.keepIn K (.ref CK) = true)
    (bCK : PySem.W.subIn K (.ref CK) (.type "BaseException") = some true)
    (tCK : PySem.W.typeIn K (.ref CK) = some (.type "type"))
    (iCK : PySem.W.isClsIn K CK = true)
    (e_CS_CS : PySem.W.subIn K (.ref CS) (.ref CS) = some true)
    (e_CK_CS : PySem.W.subIn K (.ref CK) (.ref CS) = some false)
    (e_CK_CK : PySem.W.subIn K (.ref CK) (.ref CK) = some true)
    (zL : PySem.W.nsIn K mainGlobals "MOST_LETTERS" = some (some (.int 8 tL)))
    (zM : PySem.W.nsIn K mainGlobals "MOST_MODES" = some (some (.int 4 tM)))
    (zK : PySem.W.nsIn K mainGlobals "MOST_KINDS" = some (some (.int 4 tK)))
    (zC : PySem.W.nsIn K mainGlobals "MOST_COST" = some (some (.int 4 tC)))
    (zF : PySem.W.nsIn K mainGlobals "FAR" = some (some (.int 1000000 tF)))
    (u_isinstance : PySem.W.nsIn K mainGlobals "isinstance" = some none)
    (u_bool : PySem.W.nsIn K mainGlobals "bool" = some none)
    (u_int : PySem.W.nsIn K mainGlobals "int" = some none)
    (u_str : PySem.W.nsIn K mainGlobals "str" = some none)
    (u_list : PySem.W.nsIn K mainGlobals "list" = some none)
    (u_dict : PySem.W.nsIn K mainGlobals "dict" = some none)
    (u_tuple : PySem.W.nsIn K mainGlobals "tuple" = some none)
    (u_len : PySem.W.nsIn K mainGlobals "len" = some none)
    (u_all : PySem.W.nsIn K mainGlobals "all" = some none)
    (u_range : PySem.W.nsIn K mainGlobals "range" = some none)
    (u_sorted : PySem.W.nsIn K mainGlobals "sorted" = some none)
    (u_max : PySem.W.nsIn K mainGlobals "max" = some none)
    (u_min : PySem.W.nsIn K mainGlobals "min" = some none)
    (u_abs : PySem.W.nsIn K mainGlobals "abs" = some none)
    (u_repr : PySem.W.nsIn K mainGlobals "repr" = some none)
    (u_zip : PySem.W.nsIn K mainGlobals "zip" = some none) :
    ∃ fd : FuncData, (∀ (s : Shared) (v : Value), BindsTo s fd ⟨[v], []⟩ [("script", v)]) ∧ ∀ base : Heap, K.In base → base.Ns mainGlobals mg → FnG l.prog w K mg base CX0 8 fa fd ["script"] (spLaw K) := by
  have e := hfa.symm.trans (PySem.W.mg_of X G afla)
  cases e
  have FfT := fun_mk (st := sInt) lfT cfT kfT
  have bfT := FfT.binds (ps := ["value"]) fun _ _ _ _ _ _ us hl => match us, hl with | [_], _ => rfl
  have CfT : Cd K mg "is_integer" sInt ["value"] fT _ := ⟨FfT, PySem.W.mg_of X G afT, bfT⟩
  have FfI := fun_mk (st := sIsInt) lfI cfI kfI
  have bfI := FfI.binds (ps := ["value", "least", "most"]) fun _ _ _ _ _ _ us hl => match us, hl with | [_, _, _], _ => rfl
  have CfI : Cd K mg "is_integer_within" sIsInt ["value", "least", "most"] fI _ := ⟨FfI, PySem.W.mg_of X G afI, bfI⟩
  have FfNm := fun_mk (st := sIsName) lfNm cfNm kfNm
  have bfNm := FfNm.binds (ps := ["value"]) fun _ _ _ _ _ _ us hl => match us, hl with | [_], _ => rfl
  have CfNm : Cd K mg "is_name" sIsName ["value"] fNm _ := ⟨FfNm, PySem.W.mg_of X G afNm, bfNm⟩
  have FfW := fun_mk (st := sSw) lfW cfW kfW
  have bfW := FfW.binds (ps := ["value"]) fun _ _ _ _ _ _ us hl => match us, hl with | [_], _ => rfl
  have CfW : Cd K mg "are_switches" sSw ["value"] fW _ := ⟨FfW, PySem.W.mg_of X G afW, bfW⟩
  have FfF := fun_mk (st := sSwF) lfF cfF kfF
  have bfF := FfF.binds (ps := ["value", "mode", "modes"]) fun _ _ _ _ _ _ us hl => match us, hl with | [_, _, _], _ => rfl
  have CfF : Cd K mg "are_switches_from" sSwF ["value", "mode", "modes"] fF _ := ⟨FfF, PySem.W.mg_of X G afF, bfF⟩
  have FfK := fun_mk (st := sKi) lfK cfK kfK
  have bfK := FfK.binds (ps := ["value", "modes"]) fun _ _ _ _ _ _ us hl => match us, hl with | [_, _], _ => rfl
  have CfK : Cd K mg "are_kinds" sKi ["value", "modes"] fK _ := ⟨FfK, PySem.W.mg_of X G afK, bfK⟩
  have FfS := fun_mk (st := sSe) lfS cfS kfS
  have bfS := FfS.binds (ps := ["value", "modes"]) fun _ _ _ _ _ _ us hl => match us, hl with | [_, _], _ => rfl
  have CfS : Cd K mg "are_services" sSe ["value", "modes"] fS _ := ⟨FfS, PySem.W.mg_of X G afS, bfS⟩
  have FfA := fun_mk (st := sArr) lfA cfA kfA
  have bfA := FfA.binds (ps := ["switches", "mode"]) fun _ _ _ _ _ _ us hl => match us, hl with | [_, _], _ => rfl
  have CfA : Cd K mg "arrival" sArr ["switches", "mode"] fA _ := ⟨FfA, PySem.W.mg_of X G afA, bfA⟩
  have FfY := fun_mk (st := sWay) lfY cfY kfY
  have bfY := FfY.binds (ps := ["arrivals", "services"]) fun _ _ _ _ _ _ us hl => match us, hl with | [_, _], _ => rfl
  have CfY : Cd K mg "ways_of_serving" sWay ["arrivals", "services"] fY _ := ⟨FfY, PySem.W.mg_of X G afY, bfY⟩
  have Fffe := fun_mk (st := sFeed) lffe cffe kffe
  have bffe := Fffe.binds (ps := ["script", "k"]) fun _ _ _ _ _ _ us hl => match us, hl with | [_, _], _ => rfl
  have Cffe : Cd K mg "_law_feed" sFeed ["script", "k"] ffe _ := ⟨Fffe, PySem.W.mg_of X G affe, bffe⟩
  have Ffta := fun_mk (st := sTake) lfta cfta kfta
  have bfta := Ffta.binds (ps := ["feed", "many"]) fun _ _ _ _ _ _ us hl => match us, hl with | [_, _], _ => rfl
  have Cfta : Cd K mg "_law_take" sTake ["feed", "many"] fta _ := ⟨Ffta, PySem.W.mg_of X G afta, bfta⟩
  have Ffsa := fun_mk (st := sSaid) lfsa cfsa kfsa
  have bfsa := Ffsa.binds (ps := ["switches", "kinds"]) fun _ _ _ _ _ _ us hl => match us, hl with | [_, _], _ => rfl
  have Cfsa : Cd K mg "_law_said" sSaid ["switches", "kinds"] fsa _ := ⟨Ffsa, PySem.W.mg_of X G afsa, bfsa⟩
  have Ffsw := fun_mk (st := sSws) lfsw cfsw kfsw
  have bfsw := Ffsw.binds (ps := []) fun _ _ _ _ _ _ us hl => match us, hl with | [], _ => rfl
  have Cfsw : Cd K mg "_law_switches" sSws [] fsw _ := ⟨Ffsw, PySem.W.mg_of X G afsw, bfsw⟩
  have Ffki := fun_mk (st := sKis) lfki cfki kfki
  have bfki := Ffki.binds (ps := []) fun _ _ _ _ _ _ us hl => match us, hl with | [], _ => rfl
  have Cfki : Cd K mg "_law_kinds" sKis [] fki _ := ⟨Ffki, PySem.W.mg_of X G afki, bfki⟩
  have Ffto := fun_mk (st := sTold) lfto cfto kfto
  have bfto := Ffto.binds (ps := ["number"]) fun _ _ _ _ _ _ us hl => match us, hl with | [_], _ => rfl
  have Cfto : Cd K mg "_law_told_right" sTold ["number"] fto _ := ⟨Ffto, PySem.W.mg_of X G afto, bfto⟩
  have Ffla := fun_mk (st := sLaw) lfla cfla kfla
  have FfN := fun_mk (st := sInit) lfN cfN kfN
  have bfN := FfN.binds (ps := ["self", "switches", "kinds"]) fun _ _ _ _ _ _ us hl => match us, hl with | [_, _, _], _ => rfl
  have Ffq := fun_mk (st := sEq) lfq cfq kfq
  have bfq := Ffq.binds (ps := ["self", "other"]) fun _ _ _ _ _ _ us hl => match us, hl with | [_, _], _ => rfl
  have Mfq : Md K C "__eq__" "System.__eq__" sEq ["self", "other"] fq _ := ⟨Ffq, ⟨afq, ifq, kfq⟩, bfq⟩
  have Ffw := fun_mk (st := sSwitch) lfw cfw kfw
  have bfw := Ffw.binds (ps := ["self", "first", "second"]) fun _ _ _ _ _ _ us hl => match us, hl with | [_, _, _], _ => rfl
  have Mfw : Md K C "switch" "System.switch" sSwitch ["self", "first", "second"] fw _ := ⟨Ffw, ⟨afw, ifw, kfw⟩, bfw⟩
  have Ffs := fun_mk (st := sService) lfs cfs kfs
  have bfs := Ffs.binds (ps := ["self", "kind", "mode"]) fun _ _ _ _ _ _ us hl => match us, hl with | [_, _, _], _ => rfl
  have Mfs : Md K C "service" "System.service" sService ["self", "kind", "mode"] fs _ := ⟨Ffs, ⟨afs, ifs, kfs⟩, bfs⟩
  have Ffws := fun_mk (st := sSwitches) lfws cfws kfws
  have bfws := Ffws.binds (ps := ["self"]) fun _ _ _ _ _ _ us hl => match us, hl with | [_], _ => rfl
  have Mfws : Md K C "switches" "System.switches" sSwitches ["self"] fws _ := ⟨Ffws, ⟨afws, ifws, kfws⟩, bfws⟩
  have Ffks := fun_mk (st := sKinds) lfks cfks kfks
  have bfks := Ffks.binds (ps := ["self"]) fun _ _ _ _ _ _ us hl => match us, hl with | [_], _ => rfl
  have Mfks : Md K C "kinds" "System.kinds" sKinds ["self"] fks _ := ⟨Ffks, ⟨afks, ifks, kfks⟩, bfks⟩
  have T : Bt mg := ⟨PySem.W.mg_none_of X G u_isinstance, PySem.W.mg_none_of X G u_bool, PySem.W.mg_none_of X G u_int, PySem.W.mg_none_of X G u_str, PySem.W.mg_none_of X G u_list, PySem.W.mg_none_of X G u_dict, PySem.W.mg_none_of X G u_tuple, PySem.W.mg_none_of X G u_len, PySem.W.mg_none_of X G u_all, PySem.W.mg_none_of X G u_range, PySem.W.mg_none_of X G u_sorted, ⟨_, PySem.W.mg_of X G zL⟩⟩
  have T2 : Bt2 mg := ⟨PySem.W.mg_none_of X G u_max, PySem.W.mg_none_of X G u_min, PySem.W.mg_none_of X G u_abs⟩
  have S : Sy K mg fI fNm fW fF fK fS fA fY _ _ _ _ _ _ _ _ := ⟨⟨CfI, _, _, CfT⟩, CfNm, CfW, CfF, CfK, CfS, CfA, CfY, ⟨_, PySem.W.mg_of X G zC⟩, ⟨_, PySem.W.mg_of X G zM⟩, ⟨_, PySem.W.mg_of X G zK⟩, ⟨_, PySem.W.mg_of X G zF⟩, PySem.W.mg_none_of X G u_tuple, PySem.W.mg_none_of X G u_max, PySem.W.mg_none_of X G u_zip⟩
  have cC : SysC K mg C := ⟨⟨pgC, hdC, poC, saC⟩, n0C, n1C, n2C, n3C, n4C, n5C, PySem.W.mg_of X G aC⟩
  have cI : SysI K C := ⟨ihaC, ihn, iht, ihmC, kit_self⟩
  have eS : ErrC K mg "BadSwitches" CS := ⟨PySem.W.mg_of X G aCS, xCS, kCS, bCS, tCS⟩
  have eK : ErrC K mg "BadKinds" CK := ⟨PySem.W.mg_of X G aCK, xCK, kCK, bCK, tCK⟩
  exact ⟨PySem.W.fnOf "law" "law" (defArgs sLaw) (defBody sLaw) (defScope sLaw) .none kVfla dcfla pmfla anfla cdfla ctfla, fun s v => .of_eq rfl, fun base _ _ => ok_law Ffla T T2 (PySem.W.mg_none_of X G u_repr) S cC cI eS eK ⟨exm_of bCS iCS tCS e_CS_CS, exm_of bCS iCS tCS e_CK_CS, exm_of bCK iCK tCK e_CK_CK⟩ ⟨mkC, afN, ifN, kcC⟩ FfN bfN Mfw Mfs Mfws Mfks Mfq Cffe Cfta Cfsa Cfsw Cfki Cfto⟩
theorem walk {l : PySem.W.OpenLaw} {q : Program} {loose : List Str} {XP : (Str → Option Value) → Heap → Prop} {YP : World → Heap → Prop} {d : DefRec} {K : Params → PySem.W.Frag} (hn : l.most = some 63) (hdf : d.params.defaults = [])
    (hY : ∀ (w : World) (h : Heap), YP w h → (K w.params).In h)
    (F : ∀ (w : World) (mg : Str → Option Value) (fa : Addr) (h : Heap), (K w.params).In h → h.Ns mainGlobals mg → mg d.name = some (.ref fa) →
      ∃ fd : FuncData, (∀ (s : Shared) (u : Value), BindsTo s fd ⟨[u], []⟩ [("script", u)]) ∧ ∀ base : Heap, (K w.params).In base → base.Ns mainGlobals mg → FnG l.prog w (K w.params) mg base CX0 8 fa fd ["script"] (spLaw (K w.params))) :
    PySem.W.WalkO q loose XP YP l.row.toRowW d [] (fun f vs => PySem.call f vs) :=
  HX.walk_ofG (n := 63) (k := 8) (x := "script") (sp := fun w => spLaw (K w.params)) hn (by decide) hdf ⟨rfl, by decide, by decide⟩ hY F (fun _ _ a ns hl _ hS => ⟨a, ns, rfl, hS, fun _ => rfl⟩)
end K04

open PySem PySem.W PyProof.Rows
set_option maxRecDepth 100000 in
set_option maxHeartbeats 0 in
theorem PySem.Challenge.cw_latewise_k04_known_systems_holds : PySem.Challenge.rw_latewise_k04_known_systems.Holds := by
  w_on; o_law; k_head; (case hw => w_witness2)
  k_fill
  refine K04.walk (l := PySem.Challenge.rw_latewise_k04_known_systems) rfl rfl (fun w h Y => PySem.W.kIn_of Y) ?F
  case F =>
    intro w mg fa h KX G hmg
    refine' K04.all_mk KX G hmg ?afT ?lfT ?cfT ?kfT ?afI ?lfI ?cfI ?kfI ?afNm ?lfNm ?cfNm ?kfNm ?afW ?lfW ?cfW ?kfW ?afF ?lfF ?cfF ?kfF ?afK ?lfK ?cfK ?kfK ?afS ?lfS ?cfS ?kfS ?afA ?lfA ?cfA ?kfA ?afY ?lfY ?cfY ?kfY ?affe ?lffe ?cffe ?kffe ?afta ?lfta ?cfta ?kfta ?afsa ?lfsa ?cfsa ?kfsa ?afsw ?lfsw ?cfsw ?kfsw ?afki ?lfki ?cfki ?kfki ?afto ?lfto ?cfto ?kfto ?afla ?lfla ?cfla ?kfla ?aC ?afN ?ifN ?lfN ?cfN ?kfN ?afq ?ifq ?lfq ?cfq ?kfq ?afw ?ifw ?lfw ?cfw ?kfw ?afs ?ifs ?lfs ?cfs ?kfs ?afws ?ifws ?lfws ?cfws ?kfws ?afks ?ifks ?lfks ?cfks ?kfks ?pgC ?hdC ?poC ?saC ?mkC ?kcC ?n0C ?n1C ?n2C ?n3C ?n4C ?n5C ?ihaC ?ihmC ?ihn ?iht ?aCS ?xCS ?kCS ?bCS ?tCS ?iCS ?aCK ?xCK ?kCK ?bCK ?tCK ?iCK ?e_CS_CS ?e_CK_CS ?e_CK_CK ?zL ?zM ?zK ?zC ?zF ?u_isinstance ?u_bool ?u_int ?u_str ?u_list ?u_dict ?u_tuple ?u_len ?u_all ?u_range ?u_sorted ?u_max ?u_min ?u_abs ?u_repr ?u_zip
    (case afT => k_is)
    (case lfT => k_is)
    (case cfT => k_is)
    (case kfT => k_is)
    (case afI => k_is)
    (case lfI => k_is)
    (case cfI => k_is)
    (case kfI => k_is)
    (case afNm => k_is)
    (case lfNm => k_is)
    (case cfNm => k_is)
    (case kfNm => k_is)
    (case afW => k_is)
    (case lfW => k_is)
    (case cfW => k_is)
    (case kfW => k_is)
    (case afF => k_is)
    (case lfF => k_is)
    (case cfF => k_is)
    (case kfF => k_is)
    (case afK => k_is)
    (case lfK => k_is)
    (case cfK => k_is)
    (case kfK => k_is)
    (case afS => k_is)
    (case lfS => k_is)
    (case cfS => k_is)
    (case kfS => k_is)
    (case afA => k_is)
    (case lfA => k_is)
    (case cfA => k_is)
    (case kfA => k_is)
    (case afY => k_is)
    (case lfY => k_is)
    (case cfY => k_is)
    (case kfY => k_is)
    (case affe => k_is)
    (case lffe => k_is)
    (case cffe => k_is)
    (case kffe => k_is)
    (case afta => k_is)
    (case lfta => k_is)
    (case cfta => k_is)
    (case kfta => k_is)
    (case afsa => k_is)
    (case lfsa => k_is)
    (case cfsa => k_is)
    (case kfsa => k_is)
    (case afsw => k_is)
    (case lfsw => k_is)
    (case cfsw => k_is)
    (case kfsw => k_is)
    (case afki => k_is)
    (case lfki => k_is)
    (case cfki => k_is)
    (case kfki => k_is)
    (case afto => k_is)
    (case lfto => k_is)
    (case cfto => k_is)
    (case kfto => k_is)
    (case afla => k_is)
    (case lfla => k_is)
    (case cfla => k_is)
    (case kfla => k_is)
    (case aC => k_is)
    (case afN => k_is)
    (case ifN => k_is)
    (case lfN => k_is)
    (case cfN => k_is)
    (case kfN => k_is)
    (case afq => k_is)
    (case ifq => k_is)
    (case lfq => k_is)
    (case cfq => k_is)
    (case kfq => k_is)
    (case afw => k_is)
    (case ifw => k_is)
    (case lfw => k_is)
    (case cfw => k_is)
    (case kfw => k_is)
    (case afs => k_is)
    (case ifs => k_is)
    (case lfs => k_is)
    (case cfs => k_is)
    (case kfs => k_is)
    (case afws => k_is)
    (case ifws => k_is)
    (case lfws => k_is)
    (case cfws => k_is)
    (case kfws => k_is)
    (case afks => k_is)
    (case ifks => k_is)
    (case lfks => k_is)
    (case cfks => k_is)
    (case kfks => k_is)
    (case pgC => k_is)
    (case hdC => k_is)
    (case poC => k_is)
    (case saC => k_is)
    (case mkC => k_is)
    (case kcC => k_is)
    (case n0C => k_is)
    (case n1C => k_is)
    (case n2C => k_is)
    (case n3C => k_is)
    (case n4C => k_is)
    (case n5C => k_is)
    (case ihaC => k_is)
    (case ihmC => k_is)
    (case ihn => k_is)
    (case iht => k_is)
    (case aCS => k_is)
    (case xCS => k_exc)
    (case kCS => k_is)
    (case bCS => k_is)
    (case tCS => k_is)
    (case iCS => k_is)
    (case aCK => k_is)
    (case xCK => k_exc)
    (case kCK => k_is)
    (case bCK => k_is)
    (case tCK => k_is)
    (case iCK => k_is)
    (case e_CS_CS => first | rfl | k_is)
    (case e_CK_CS => first | rfl | k_is)
    (case e_CK_CK => first | rfl | k_is)
    (case zL => k_is)
    (case zM => k_is)
    (case zK => k_is)
    (case zC => k_is)
    (case zF => k_is)
    (case u_isinstance => k_is)
    (case u_bool => k_is)
    (case u_int => k_is)
    (case u_str => k_is)
    (case u_list => k_is)
    (case u_dict => k_is)
    (case u_tuple => k_is)
    (case u_len => k_is)
    (case u_all => k_is)
    (case u_range => k_is)
    (case u_sorted => k_is)
    (case u_max => k_is)
    (case u_min => k_is)
    (case u_abs => k_is)
    (case u_repr => k_is)
    (case u_zip => k_is)
#print axioms PySem.Challenge.cw_latewise_k04_known_systems_holds

import PyProof.Rows.All
import Wide.All
import OpenK.AllK
import Wide.FinOn
import HandS.ForMost
import HandS.EndBits
import HandS.Wide
import HandS.WideMore
import HandS.WideBits
import HandS.Style
import HandS.Flow
import HandS.Gcd
import HandS.FStrTup
import HandS.Zip
import HandS.Conv
import HandS.Deep
import HandS.IsInst
import HandS.Codes
import PySem.Challenge.RW_etaparts_k12_whole_symbols_by_squares
set_option Elab.async false
set_option linter.all false
set_option maxRecDepth 100000
set_option maxHeartbeats 4000000
namespace EP
open PySem PySem.Spec PyProof.Rows L2
/-! ### a def's promise where no text of data is being written: only there repr of data is known -/
section
variable {P : Program} {w : World} {K : PySem.W.Frag} {mg : Str → Option Value} {base : Heap}
structure GOk (P : Program) (w : World) (K : PySem.W.Frag) (mg : Str → Option Value) (base : Heap) (n : Nat)
    (fn : Addr) (rec : FuncData) (pars : List Str) (pr : Sp) : Prop where
  arity : ∀ vals hp want ex, pr vals hp want ex → vals.length = pars.length
  go : ∀ (ar : Around) (stk : List Env) (st : Shared) (hp : Hp) (raw : List Value) (vals : List V) (want : VK),
    ar.guards = some [] → Room n ar → Env0 P w K mg base ar stk st hp →
    BindsTo st rec ⟨raw, []⟩ (pars.zip raw) → Vals vals raw → pr vals hp want E0 →
    codeAny (model P w) ar (.call (.ref fn) ⟨raw, []⟩) (CR CX0 stk P w hp st want E0) st

theorem gok {nm qual : Str} {txt : Stmt} {fn : Addr} {rec : FuncData} {N pars : List Str} {n : Nat} {pr : Sp}
    (F : Fun K nm qual txt fn rec) (S : FnScope N pars (defScope txt))
    (arity : ∀ vals hp want ex, pr vals hp want ex → vals.length = pars.length)
    (body : ∀ (cdv : Value) (ar : Around) (stk : List Env) (st : Shared) (hp : Hp) (vals : List V) (want : VK),
      ar.guards = some [] →
      Room n (ar.deeper (envOfC qual (defScope txt) st.heap.objs.size fn cdv)) → pr vals hp want E0 →
      ∃ t, PSs (cxOf CX0 P w K mg base N qual (defScope txt) fn cdv ar stk st hp E0).nox (defBody txt) t ∧
        t { nx := fun _ h2 => want .non h2, rt := want } (start N vals) hp) :
    GOk P w K mg base (n + 1) fn rec pars pr := by
  obtain ⟨cl, od, kv, dc, pm, an, cdv, ct, sl, rfl, lk, hc⟩ := F.ex
  refine ⟨arity, ?_⟩
  intro ar stk st hp raw vals want hg room env bnd rel hpr
  have nArgs := arity vals hp want E0 hpr
  have inK : K.In st.heap := env.mod.kin.keeps (fun b o q => (env.bs b o q).1)
  have noLim : st.heap.NoLimit := env.mod.nolimit.keeps (fun b o q => (env.bs b o q).1)
  refine codeAny_call_function (Room.depth room) (inK fn _ lk) rfl S.co S.gen rfl (PySem.W.codeRec_of inK hc) ?_
  refine bnd _ _ _ _ ?_
  refine wpAny_newFunctionEnv_cells S.kind ?_ ?_
  · rintro ⟨x, u⟩ hx
    cases S.par x (List.of_mem_zip hx).1 with
    | inl q => exact Or.inl q
    | inr q => exact Or.inr ⟨q, PySem.W.cellsFrom_some _ _ _ (Or.inl q)⟩
  · intro ev hev st1 inCall
    subst hev
    refine ⟨noLim.keeps inCall.toInCall.keep, codeAny_func ?_⟩
    obtain ⟨t, walk, read⟩ := body cdv ar stk st hp vals want hg (room.deeper _) hpr
    have I0 := inv_start (CX := CX0) (E := E0) S room.hd env nArgs rel inCall
    have fin : ∀ {σ2 : L2.St} {h2 : Hp} {v : V} {u : Value} {s2 : Shared},
        Inv (cxOf CX0 P w K mg base N qual (defScope txt) fn cdv ar stk st hp E0) [] σ2 h2 s2 → RelV v u → want v h2 →
        CE stk P w hp st want u s2 := by
      intro σ2 h2 v u s2 J rv q
      exact ⟨v, h2, J.os, J.bare, J.base, J.hok, rv, q⟩
    refine wpAny_mono (walk.nox.run [] st1 _ hp _ I0 read) ?_ (fun _ _ z => z)
    intro fl s2 end_
    cases fl with
    | ret u => obtain ⟨v, σ2, h2, J, rv, q⟩ := end_; exact fin J rv q
    | next => obtain ⟨σ2, h2, J, q⟩ := end_; exact fin (v := V.non) (u := Value.none) J rfl q
    | brk => obtain ⟨_, _, _, z⟩ := end_; exact z.elim
    | cont => obtain ⟨_, _, _, z⟩ := end_; exact z.elim
end
section
variable {X : Cx} {n : Nat} {fn : Addr} {rec : FuncData} {pars : List Str} {pr : Sp} {x : Str} {p pos : Pos} {e : Expr} {es : List Expr} {t : TA}
/-- a call of such a def from a body of which the same is known -/
theorem pe_gcall (hg : X.A.guards = some []) (F : GOk X.prog X.w X.K X.mg X.base n fn rec pars pr) (room : Room n X.A)
    (hgl : Gl X x) (hm : X.mg x = some (.ref fn)) (hk : PySem.W.keepIn X.K (.ref fn) = true) (bnd : Binds X.K rec pars [])
    (args : PA X (e :: es) t) (hdb : (x == ("__debug__" : Str)) = false := by decide)
    (he : starEach (e :: es) X.env = (false, eval e X.env) :: starEach es X.env := by rfl)
    (hpl : (backTo pos (starEach es X.env)).any (·.1) = false := by rfl) :
    PE X (.Call (.Name x p) (e :: es) [] pos) (tCall pr [] E0 t) := by
  constructor
  intro pins st σ hp want I h
  refine wpAny_Call_Name_kw (ld_glob I hgl hm ?_ hdb)
  refine PySem.W.callWith_K (h₀ := X.base) I.ok.mod.kin hk ?_ he hpl
  refine thn (args.run pos pins st σ hp _ I h) ?_
  rintro us s1 ⟨vs, h1, I1, rel, q⟩
  refine ⟨I1.kIn, ?_⟩
  rw [List.append_nil] at q
  have nArgs : us.length = pars.length := by rw [← rel.length]; exact F.arity _ _ _ _ q
  have b1 := bnd s1 us I1.kIn (by rw [List.append_nil]; exact nArgs)
  rw [List.append_nil] at b1
  refine wpAny_call (codeAny_mono (F.go X.A X.stack s1 h1 us vs want hg room I1.env0 b1 rel q) ?_)
  intro r s2 hr
  cases r with
  | error ex => exact hr.elim
  | ok fl =>
    cases fl with
    | ret u => exact I1.after hr
    | next => exact hr.elim
    | brk => exact hr.elim
    | cont => exact hr.elim
/-- f(a=.., b=..): keywords alone -/
theorem pe_kcall {CX : CXT} {ks : List Str} {g : List Value → List Value → List Value} {gV : List V → List V → List V} {E : XK} {kws : List Keyword} {tk : TA}
    (F : FnOk X.prog X.w X.K X.mg X.base CX n fn rec pars pr) (room : Room n X.A) (hgl : Gl X x) (hm : X.mg x = some (.ref fn))
    (hk : PySem.W.keepIn X.K (.ref fn) = true) (hb : KBinds X.K rec pars ks g gV) (hx : Passes CX X E) (hkw : PK X kws tk)
    (hall : (backToKw pos (keywordEach kws X.env)).all (·.1.isSome) = true := by rfl)
    (hks : (backToKw pos (keywordEach kws X.env)).filterMap (·.1) = ks := by rfl)
    (hdb : (x == ("__debug__" : Str)) = false := by decide)
    (hpl : ((backTo pos (starEach [] X.env)).any (·.1) || (backToKw pos (keywordEach kws X.env)).any (·.1.isNone)) = false := by rfl) :
    PE X (.Call (.Name x p) [] kws pos) (tCallK pr gV E tNil tk) := by
  constructor
  intro pins st σ hp want I h
  refine wpAny_Call_Name_kw (ld_glob I hgl hm ?_ hdb)
  refine PySem.W.callWith_KW0 (h₀ := X.base) I.ok.mod.kin hk hall ?_ hpl
  refine thn (hkw.run pos pins st σ hp _ I h) ?_
  rintro ws s2 ⟨zs, h2, I2, rz, q2⟩
  refine ⟨I2.kIn, ?_⟩
  rw [hks]
  exact run_fnk F room hb hx I2 .nil rz q2
/-- repr of data -/
theorem call_reprD (hg : X.A.guards = some []) (hu : X.A.units + 66 < cLine) :
    CallR X (.builtin "repr") (fun xs hp want => ∃ a d, xs = [.ref a] ∧ Dp X.K hp (.ref a) d ∧ d.showable = true ∧ d.hasDict = false ∧
      d.depth ≤ 64 ∧ d.shown.length ≤ sizeLine ∧ want (.str d.shown) hp) := by
  intro pins st σ hp xs us want I r h
  obtain ⟨a, d, rfl, hd, h1, h2, h3, h4, q⟩ := h
  obtain ⟨u, rfl, rv⟩ := vals1 r
  obtain rfl : u = .ref a := rv
  obtain ⟨as, rd⟩ := Dp.reads I d _ _ hd rfl
  refine repr_of_reads' rd h1 (fun z => ?_) hg (by omega) (fun _ _ z => z) (fun h2 u tk hk => ?_) h4
  · rw [h2] at z; cases z
  · exact ⟨.str _, hp, I.kept hk, ⟨_, rfl⟩, q⟩
end
/-! ### the law's end -/
theorem law_run {P : Program} {w : World} {K : PySem.W.Frag} {mg mb : Str → Option Value} {n : Nat} {fn at_ : Addr} {rec : FuncData} {x : Str} {pr : Sp} {st : Shared} {raw : List Value} {ns : List Int}
    (inK : K.In st.heap) (glob : st.heap.Ns mainGlobals mg) (blt : st.heap.Ns builtinsNs mb) (bltIs : ∀ y : Str, y ≠ "__name__" → mb y = bootBuiltins y)
    (noLim : st.heap.NoLimit) (gens : st.gens = #[]) (obj : st.heap.get? at_ = some { cls := .type "list", data := .seq raw.toArray })
    (nums : IntsAre raw ns) (few : ns.length ≤ sizeLine) (room : Room n callerA)
    (F : ∀ base : Heap, K.In base → base.Ns mainGlobals mg → GOk P w K mg base n fn rec [x] pr)
    (bnd : ∀ (s : Shared) (u : Value), BindsTo s rec ⟨[u], []⟩ [(x, u)])
    (told : ∀ hp : Hp, Only hp → SqL K hp at_ (ns.map V.int) → pr [.ref at_] hp (fun v _ => v = .bl true) E0) :
    codeAny (model P w) callerA (.call (.ref fn) ⟨[.ref at_], []⟩)
      (fun r s2 => r = .ok (.ret (.bool true)) ∧ PySem.OldK st.heap s2.heap ∧ s2.os = st.os ∧ AllBare s2.gens) st := by
  have rel := vals_ints nums
  have nRaw := nums.length
  suffices main : ∀ hp : Hp, Only hp → SqL K hp at_ (ns.map V.int) → HOk P w hp st.heap → (∀ b, hp b ≠ none → b = at_) →
      (hp at_ ≠ none → K.lookup at_ = none) →
      codeAny (model P w) callerA (.call (.ref fn) ⟨[.ref at_], []⟩)
        (fun r s2 => r = .ok (.ret (.bool true)) ∧ PySem.OldK st.heap s2.heap ∧ s2.os = st.os ∧ AllBare s2.gens) st by
    cases hk : K.lookup at_ with
    | some o =>
      have same := inK at_ o hk
      rw [obj] at same
      cases same
      refine main (fun _ => none) (fun _ => Or.inl rfl) (Or.inr ⟨_, raw.toArray, _, hk, rfl, rfl, rfl, ?_, ?_⟩) ?_ ?_ ?_
      · rw [List.size_toArray, nRaw]; exact few
      · simpa using rel
      · intro b u z
        have z2 : (none : Option HO) = some u := z
        cases z2
      · intro b z; exact absurd rfl z
      · intro z; exact absurd rfl z
    | none =>
      refine main (fun b => if b = at_ then some (.frz { cls := .type "list", data := .seq raw.toArray } (.lst (ns.map V.int))) else none) ?_ (Or.inl (Or.inr ⟨_, if_pos rfl⟩)) ?_ ?_ (fun _ => hk)
      · intro b
        by_cases hb : b = at_
        · exact Or.inr ⟨_, _, if_pos hb⟩
        · exact Or.inl (if_neg hb)
      · intro b u z
        by_cases hb : b = at_
        · have z2 := (if_pos hb).symm.trans z
          cases z2
          subst hb
          exact ⟨obj, by rw [List.length_map]; exact few, raw, _, rel, obj⟩
        · have z2 := (if_neg hb).symm.trans z
          cases z2
      · intro b z
        by_cases hb : b = at_
        · exact hb
        · exact absurd (if_neg hb) z
  intro hp only sq ok alone notK
  have un1 : ∀ {b : Addr} {o : Obj}, st.heap.get? b = some o → (∀ vs n, o.data ≠ .seq vs n) → hp b = none := by
    intro b o q d
    cases hb : hp b with
    | none => rfl
    | some u =>
      have e1 := alone b (by rw [hb]; simp)
      subst e1
      rw [obj] at q
      cases q
      exact absurd rfl (d _ _)
  have hid : ∀ {b : Addr} {o : Obj}, st.heap.get? b = some o → hp b = none → (hidT st.heap hp).get? b = some o := fun q z => hidT_get q z
  have ns1 : ∀ {b : Addr} {m : Str → Option Value}, st.heap.Ns b m → (hidT st.heap hp).Ns b m := by
    rintro b m ⟨o, es, ep, q, d, r⟩
    exact ⟨o, es, ep, hid q (un1 q (by intro vs k z; rw [d] at z; cases z)), d, r⟩
  have inK1 : K.In (hidT st.heap hp) := by
    intro b o q
    refine hid (inK b o q) ?_
    cases hb : hp b with
    | none => rfl
    | some u =>
      have e1 := alone b (by rw [hb]; simp)
      subst e1
      have z := notK (by rw [hb]; simp)
      rw [q] at z
      cases z
  have mod1 : Mod K mg (hidT st.heap hp) := by
    refine ⟨inK1, ns1 glob, ⟨mb, ns1 blt, bltIs⟩, ?_⟩
    obtain ⟨mc, a1, a2⟩ := noLim
    exact ⟨mc, ns1 a1, a2⟩
  have env1 : Env0 P w K mg (hidT st.heap hp) callerA [] st hp := by
    refine ⟨rfl, mod1, fun b o q => of_hidT q, Nat.le_of_eq (hidT_size _ _), trivial, ?_, ok, .of_eq gens⟩
    intro b hb
    cases (show b ∈ ([] : List Addr) from hb)
  refine codeAny_mono ((F _ inK1 (ns1 glob)).go callerA [] st hp [.ref at_] [.ref at_] _ rfl room env1 (bnd st (.ref at_)) (.cons rfl .nil) (told hp only sq)) ?_
  intro r s2 h
  cases r with
  | error ex => exact h.elim
  | ok fl =>
    cases fl with
    | next => exact h.elim
    | brk => exact h.elim
    | cont => exact h.elim
    | ret u =>
      obtain ⟨v, h2, os, bare, un, ok2, rv, q⟩ := h
      have q2 : v = .bl true := q
      subst q2
      obtain rfl : u = Value.bool true := rv
      refine ⟨rfl, PySem.OldK.of_keep ?_, os, bare⟩
      intro b o z
      cases hb : hp b with
      | none => exact un.keep b o z hb (by intro y; cases (show b ∈ ([] : List Addr) from y)) (by simp)
      | some u =>
        rcases only b with y | ⟨ob, xs, y⟩
        · rw [hb] at y; cases y
        · have y2 := un.frzs b ob _ y
          obtain ⟨e1, _⟩ := ok b _ y
          obtain ⟨e2, _⟩ := ok2 b _ y2
          rw [z] at e1
          cases e1
          exact e2
theorem walk_run {l : PySem.W.OpenLaw} {most n : Nat} {q : Program} {loose : List Str} {XP : (Str → Option Value) → Heap → Prop} {YP : World → Heap → Prop} {d : PySem.DefRec} {K : PySem.Params → PySem.W.Frag} {pr : World → Sp} {x : Str}
    (hn : l.most = some most) (few : most ≤ sizeLine) (hdf : d.params.defaults = []) (room : Room n callerA)
    (hY : ∀ (w : World) (h : Heap), YP w h → (K w.params).In h)
    (F : ∀ (w : World) (mg : Str → Option Value) (fa : Addr) (h : Heap), (K w.params).In h → h.Ns mainGlobals mg → mg d.name = some (.ref fa) →
      ∃ fd : FuncData, (∀ (s : Shared) (u : Value), BindsTo s fd ⟨[u], []⟩ [(x, u)]) ∧
        ∀ base : Heap, (K w.params).In base → base.Ns mainGlobals mg → GOk l.prog w (K w.params) mg base n fa fd [x] (pr w))
    (told : ∀ (w : World) (hp : Hp) (a : Addr) (ns : List Int), ns.length ≤ most → (∀ z ∈ ns, Builtin.Int.intBits z ≤ 1048576) → Only hp →
      SqL (K w.params) hp a (ns.map V.int) → pr w [.ref a] hp (fun v _ => v = .bl true) E0) :
    PySem.W.WalkO q loose XP YP l.row.toRowW d [] (fun f vs => PySem.call f vs) := by
  refine Att.attach_callB hn hdf ?_
  intro w s0 st mg mb fa o pm cd doc a raw ns G Y ho hd hcd hmg obj nums nfew bits gens
  have inK := hY w _ Y
  obtain ⟨fd, b, hF⟩ := F w mg fa _ inK G.T.g hmg
  exact law_run inK G.T.g G.T.b G.T.builtins G.T.nolimit gens obj nums (Nat.le_trans nfew few) room hF b (fun hp o1 sq => told w hp a ns nfew bits o1 sq)
end EP

namespace EP
open PySem PySem.Spec PyProof.Rows L2
/-! ### heaps that grow -/
def Kp (H H' : Hp) : Prop := ∀ a o, H a = some o → H' a = some o
theorem Kp.refl (H : Hp) : Kp H H := fun _ _ h => h
theorem Kp.trans {H H1 H2 : Hp} (a : Kp H H1) (b : Kp H1 H2) : Kp H H2 := fun x o h => b x o (a x o h)
theorem Kp.new {H : Hp} {p : Addr} {o : HO} (h : H p = none) : Kp H (upd H p o) := fun b x e => by
  rw [upd_ne (ne_of_none e h)]; exact e
theorem Kp.rd {H H' : Hp} {a : Addr} {u : HO} (k : Kp H H') (h : Rd H a u) : Rd H' a u := by
  cases h with
  | inl h => exact .inl (k _ _ h)
  | inr h => obtain ⟨o, h⟩ := h; exact .inr ⟨o, k _ _ h⟩
theorem Kp.sq {K : PySem.W.Frag} {H H' : Hp} {a : Addr} {xs : List V} (k : Kp H H') (h : SqL K H a xs) : SqL K H' a xs := by
  cases h with
  | inl h => exact .inl (k.rd h)
  | inr h => exact .inr h
theorem Kp.st {K : PySem.W.Frag} {H H' : Hp} {a : Addr} {xs : List V} (k : Kp H H') (h : SqT K H a xs) : SqT K H' a xs := by
  cases h with
  | inl h => exact .inl (k.rd h)
  | inr h => exact .inr h
theorem Kp.free {H H' : Hp} {p : Addr} (k : Kp H H') (h : H' p = none) : H p = none := by
  cases q : H p with
  | none => rfl
  | some o => rw [k p o q] at h; cases h
mutual
theorem Kp.dp {K : PySem.W.Frag} {H H' : Hp} (k : Kp H H') : ∀ (d : PyData) (v : V), Dp K H v d → Dp K H' v d
  | .none, _, h => by cases h; exact .non
  | .bool b, _, h => by cases h; exact .bl b
  | .int i, _, h => by cases h; exact .int i
  | .str x, _, h => by cases h; exact .str x
  | .list ds, _, h => by cases h with | lst hs ha => exact .lst (k.sq hs) (Kp.dpAll k ds _ ha)
  | .tuple ds, _, h => by cases h with | tup hs ha => exact .tup (k.st hs) (Kp.dpAll k ds _ ha)
  | .dict _, _, h => by cases h
theorem Kp.dpAll {K : PySem.W.Frag} {H H' : Hp} (k : Kp H H') : ∀ (ds : List PyData) (vs : List V), DpAll K H vs ds → DpAll K H' vs ds
  | [], _, h => by cases h; exact .nil
  | d :: ds, _, h => by cases h with | cons h1 h2 => exact .cons (Kp.dp k d _ h1) (Kp.dpAll k ds _ h2)
end
/-- all but the object at a stands -/
def Bt (a : Addr) (H H' : Hp) : Prop := ∀ b o, b ≠ a → H b = some o → H' b = some o
theorem Bt.refl (a : Addr) (H : Hp) : Bt a H H := fun _ _ _ h => h
theorem Bt.trans {a : Addr} {H H1 H2 : Hp} (x : Bt a H H1) (y : Bt a H1 H2) : Bt a H H2 := fun b o n h => y b o n (x b o n h)
theorem Kp.bt {a : Addr} {H H' : Hp} (k : Kp H H') : Bt a H H' := fun b o _ h => k b o h
theorem Bt.upd {a : Addr} {H : Hp} {o : HO} : Bt a H (upd H a o) := fun b x n e => by rw [upd_ne n]; exact e
theorem Bt.rd {a b : Addr} {H H' : Hp} {u : HO} (k : Bt a H H') (n : b ≠ a) (h : Rd H b u) : Rd H' b u := by
  cases h with
  | inl h => exact .inl (k _ _ n h)
  | inr h => obtain ⟨o, h⟩ := h; exact .inr ⟨o, k _ _ n h⟩
theorem Bt.sq {K : PySem.W.Frag} {a b : Addr} {H H' : Hp} {xs : List V} (k : Bt a H H') (n : b ≠ a) (h : SqL K H b xs) : SqL K H' b xs := by
  cases h with
  | inl h => exact .inl (k.rd n h)
  | inr h => exact .inr h
theorem sqL {K : PySem.W.Frag} {H : Hp} {a : Addr} {xs : List V} (h : H a = some (.lst xs)) : SqL K H a xs := .inl (.inl h)
theorem sqT {K : PySem.W.Frag} {H : Hp} {a : Addr} {xs : List V} (h : H a = some (.tup xs)) : SqT K H a xs := .inl (.inl h)
theorem szOk {n : Nat} (h : n ≤ 100000) : n ≤ sizeLine := Nat.le_trans h (by decide)
theorem szLt {n : Nat} (h : n < 100000) : n < sizeLine := Nat.lt_of_lt_of_le h (by decide)
theorem un66 {k : Nat} {A : Around} (r : Room k A) : A.units + 66 < cLine := by have := r.un; omega
/-! ### data -/
theorem dpInts {K : PySem.W.Frag} {H : Hp} : ∀ ns : List Int, DpAll K H (ns.map V.int) (ns.map PyData.int)
  | [] => .nil
  | n :: r => .cons (.int n) (dpInts r)
theorem dpIntList {K : PySem.W.Frag} {H : Hp} {a : Addr} {ns : List Int} (h : SqL K H a (ns.map V.int)) : Dp K H (.ref a) (.list (ns.map PyData.int)) := .lst h (dpInts ns)
theorem dpIntTup {K : PySem.W.Frag} {H : Hp} {a : Addr} {ns : List Int} (h : SqT K H a (ns.map V.int)) : Dp K H (.ref a) (.tuple (ns.map PyData.int)) := .tup h (dpInts ns)
mutual
/-- numbers, truths, None, lists and tuples of such, of at most f levels, that can be written out -/
def okD : Nat → PyData → Bool
  | _, .none => true
  | _, .bool _ => true
  | _, .int i => decide (i.natAbs.log2 < 1900)
  | 0, _ => false
  | f + 1, .list xs => okAll f xs
  | f + 1, .tuple xs => okAll f xs
  | _, _ => false
def okAll : Nat → List PyData → Bool
  | _, [] => true
  | f, x :: xs => okD f x && okAll f xs
end
mutual
def nodes : PyData → Nat
  | .list xs => nodesAll xs + 1
  | .tuple xs => nodesAll xs + 1
  | _ => 1
def nodesAll : List PyData → Nat
  | [] => 0
  | x :: xs => nodes x + nodesAll xs
end
theorem piledC (t : Str) (ts : List Str) : piled (t :: ts) = (t.length + 2) + piled ts := by simp [piled]
theorem textFromLe : ∀ (ts : List Str) (k : Nat) (acc : Str), (textFrom k acc ts).length ≤ acc.length + piled ts
  | [], k, acc => by show acc.length ≤ _; omega
  | t :: r, k, acc => by
    have h := textFromLe r (k + 1) (acc ++ (if k > 0 then ", " else "" : String) ++ t)
    have e : (acc ++ (if k > 0 then ", " else "" : String) ++ t).length = acc.length + (if k > 0 then 2 else 0) + t.length := by
      rw [strLen_append, strLen_append]
      split <;> rfl
    rw [e] at h
    rw [piledC]
    show (textFrom (k + 1) _ r).length ≤ _
    have : (if k > 0 then 2 else 0 : Nat) ≤ 2 := by split <;> omega
    omega
theorem listTextLe (ts : List Str) : (listText ts).length ≤ piled ts + 2 := by
  unfold listText
  rw [strLen_append]
  have h := textFromLe ts 0 "["
  have e1 : ((("[" : String) : Str)).length = 1 := rfl
  have e2 : ((("]" : String) : Str)).length = 1 := rfl
  rw [e1] at h
  rw [e2]
  omega
theorem intTextLe {i : Int} (h : i.natAbs.log2 < 1900) : (Str.ofString (toString i)).length ≤ 1901 := by
  have h1 := int_text_length_le (a := i) (k := 1900) (by decide) h
  rw [PySem.ofString_length]
  omega
mutual
theorem shownLe : ∀ (f : Nat) (d : PyData), okD f d = true → d.shown.length + 2 ≤ 2004 * nodes d
  | _, .none, _ => by decide
  | _, .bool b, _ => by cases b <;> decide
  | _, .int i, h => by
    have h1 : i.natAbs.log2 < 1900 := by simpa [okD] using h
    have h2 := intTextLe h1
    show (Str.ofString (toString i)).length + 2 ≤ 2004 * 1
    omega
  | 0, .str _, h => by simp [okD] at h
  | 0, .list _, h => by simp [okD] at h
  | 0, .tuple _, h => by simp [okD] at h
  | 0, .dict _, h => by simp [okD] at h
  | f + 1, .str _, h => by simp [okD] at h
  | f + 1, .dict _, h => by simp [okD] at h
  | f + 1, .list xs, h => by
    have h1 : okAll f xs = true := by simpa [okD] using h
    have h2 := shownAllLe f xs h1
    have h3 := listTextLe (PyData.shownAll xs)
    show (listText (PyData.shownAll xs)).length + 2 ≤ 2004 * (nodesAll xs + 1)
    omega
  | f + 1, .tuple xs, h => by
    have h1 : okAll f xs = true := by simpa [okD] using h
    have h2 := shownAllLe f xs h1
    have h3 := fmt_text (PyData.shownAll xs)
    show (tupleText (PyData.shownAll xs)).length + 2 ≤ 2004 * (nodesAll xs + 1)
    omega
theorem shownAllLe : ∀ (f : Nat) (xs : List PyData), okAll f xs = true → piled (PyData.shownAll xs) ≤ 2004 * nodesAll xs
  | _, [], _ => by decide
  | f, x :: xs, h => by
    have h1 : okD f x = true ∧ okAll f xs = true := by simpa [okAll] using h
    have h2 := shownLe f x h1.1
    have h3 := shownAllLe f xs h1.2
    show piled (PyData.shown x :: PyData.shownAll xs) ≤ 2004 * (nodes x + nodesAll xs)
    rw [piledC]
    omega
end
mutual
theorem okD_show : ∀ (f : Nat) (d : PyData), okD f d = true → d.showable = true ∧ d.hasDict = false ∧ d.depth ≤ f
  | f, .none, _ => ⟨rfl, rfl, Nat.zero_le _⟩
  | f, .bool b, _ => ⟨rfl, rfl, Nat.zero_le _⟩
  | f, .int i, h => by
    have h1 : i.natAbs.log2 < 1900 := by simpa [okD] using h
    refine ⟨?_, rfl, Nat.zero_le _⟩
    show decide (i.natAbs.log2 < 1920) = true
    exact decide_eq_true (by omega)
  | 0, .str _, h => by simp [okD] at h
  | 0, .list _, h => by simp [okD] at h
  | 0, .tuple _, h => by simp [okD] at h
  | 0, .dict _, h => by simp [okD] at h
  | f + 1, .str _, h => by simp [okD] at h
  | f + 1, .dict _, h => by simp [okD] at h
  | f + 1, .list xs, h => by
    have h1 : okAll f xs = true := by simpa [okD] using h
    obtain ⟨a, b, c⟩ := okAll_show f xs h1
    refine ⟨a, b, ?_⟩
    show PyData.depthAll xs + 1 ≤ f + 1
    omega
  | f + 1, .tuple xs, h => by
    have h1 : okAll f xs = true := by simpa [okD] using h
    obtain ⟨a, b, c⟩ := okAll_show f xs h1
    refine ⟨a, b, ?_⟩
    show PyData.depthAll xs + 1 ≤ f + 1
    omega
theorem okAll_show : ∀ (f : Nat) (xs : List PyData), okAll f xs = true → PyData.showableAll xs = true ∧ PyData.hasDictAll xs = false ∧ PyData.depthAll xs ≤ f
  | f, [], _ => ⟨rfl, rfl, Nat.zero_le _⟩
  | f, x :: xs, h => by
    have h1 : okD f x = true ∧ okAll f xs = true := by simpa [okAll] using h
    obtain ⟨a, b, c⟩ := okD_show f x h1.1
    obtain ⟨a2, b2, c2⟩ := okAll_show f xs h1.2
    refine ⟨?_, ?_, ?_⟩
    · show (PyData.showable x && PyData.showableAll xs) = true
      rw [a, a2]; rfl
    · show (PyData.hasDict x || PyData.hasDictAll xs) = false
      rw [b, b2]; rfl
    · show max (PyData.depth x) (PyData.depthAll xs) ≤ f
      omega
end
mutual
theorem okD_lay : ∀ (f : Nat) (d : PyData), okD f d = true → d.canLay0 = true
  | f, .none, _ => by simp [PyData.canLay0]
  | f, .bool b, _ => by simp [PyData.canLay0]
  | f, .int i, h => by simp [PyData.canLay0]
  | 0, .str _, h => by simp [okD] at h
  | 0, .list _, h => by simp [okD] at h
  | 0, .tuple _, h => by simp [okD] at h
  | 0, .dict _, h => by simp [okD] at h
  | f + 1, .str _, h => by simp [okD] at h
  | f + 1, .dict _, h => by simp [okD] at h
  | f + 1, .list xs, h => by
    have h1 : okAll f xs = true := by simpa [okD] using h
    have h2 := okAll_lay f xs h1
    simp only [PyData.canLay0]; exact h2
  | f + 1, .tuple xs, h => by
    have h1 : okAll f xs = true := by simpa [okD] using h
    have h2 := okAll_lay f xs h1
    simp only [PyData.canLay0]; exact h2
theorem okAll_lay : ∀ (f : Nat) (xs : List PyData), okAll f xs = true → PyData.canLayAll0 xs = true
  | f, [], _ => by simp [PyData.canLayAll0]
  | f, x :: xs, h => by
    have h1 : okD f x = true ∧ okAll f xs = true := by simpa [okAll] using h
    simp only [PyData.canLayAll0, okD_lay f x h1.1, okAll_lay f xs h1.2, Bool.and_self]
end
theorem okD_shaped {f : Nat} {d : PyData} (h : okD f d = true) (hf : f ≤ 64) : SeqAt.shaped d = true := by
  have h1 := okD_lay f d h
  obtain ⟨_, _, h2⟩ := okD_show f d h
  show (d.canLay0 && decide (d.depth ≤ 64)) = true
  rw [Bool.and_eq_true]
  exact ⟨h1, decide_eq_true (by omega)⟩
/-- repr of small data -/
def rRep (K : PySem.W.Frag) : List V → Hp → VK → Prop := fun xs H Q => ∃ a d, xs = [.ref a] ∧ Dp K H (.ref a) d ∧ okD 8 d = true ∧ nodes d ≤ 4000 ∧ Q (.str d.shown) H
theorem call_rep {X : Cx} (hg : X.A.guards = some []) (hu : X.A.units + 66 < cLine) : CallR X (.builtin "repr") (rRep X.K) := by
  intro pins s σ H xs us Q I r h
  obtain ⟨a, d, e, hd, h1, h2, q⟩ := h
  obtain ⟨h3, h4, h5⟩ := okD_show 8 d h1
  have h6 := shownLe 8 d h1
  refine call_reprD hg hu pins s σ H xs us Q I r ⟨a, d, e, hd, h3, h4, by omega, ?_, q⟩
  rw [sizeLine_eq]
  omega
theorem okInts {f : Nat} : ∀ {ns : List Int}, (∀ n ∈ ns, n.natAbs.log2 < 1900) → okAll f (ns.map PyData.int) = true
  | [], _ => rfl
  | n :: r, h => by
    show (okD f (.int n) && okAll f (r.map PyData.int)) = true
    rw [okInts fun m hm => h m (List.mem_cons_of_mem _ hm), Bool.and_true]
    cases f <;> exact decide_eq_true (h n List.mem_cons_self)
theorem nodesInts : ∀ ns : List Int, nodesAll (ns.map PyData.int) = ns.length
  | [] => rfl
  | n :: r => by
    show nodes (.int n) + nodesAll (r.map PyData.int) = r.length + 1
    rw [nodesInts r]
    show 1 + r.length = r.length + 1
    omega
theorem nodesL (ns : List Int) (h : ns.length ≤ 3000) : nodes (.list (ns.map PyData.int)) ≤ 4000 := by
  show nodesAll (ns.map PyData.int) + 1 ≤ 4000
  rw [nodesInts]; omega
theorem nodesT (ns : List Int) (h : ns.length ≤ 3000) : nodes (.tuple (ns.map PyData.int)) ≤ 4000 := by
  show nodesAll (ns.map PyData.int) + 1 ≤ 4000
  rw [nodesInts]; omega
theorem shortInt {n : Int} (h : -(2 ^ 200) < n ∧ n < 2 ^ 200) : n.natAbs.log2 < 1900 := by
  have h0 : n.natAbs < 2 ^ 200 := by omega
  have h1 : n.natAbs < 2 ^ 1900 := Nat.lt_of_lt_of_le h0 (Nat.pow_le_pow_right (by decide) (by decide))
  by_cases z : n.natAbs = 0
  · rw [z]; decide
  · exact (Nat.log2_lt z).mpr h1
end EP

namespace K12
open PySem PySem.Spec PyProof.Rows L2 EP

/-- the law's pot: a list of two ints, neither below 0, the second below 2 ^ 31 -/
def Pot (H : Hp) (a : Addr) : Prop := ∃ p0 p1 : Int, H a = some (.lst [.int p0, .int p1]) ∧ 0 ≤ p0 ∧ 0 ≤ p1 ∧ p1 < 2147483648
theorem Pot.kp {H H' : Hp} {a : Addr} (p : Pot H a) (k : Kp H H') : Pot H' a := by
  obtain ⟨p0, p1, e, h⟩ := p
  exact ⟨p0, p1, k _ _ e, h⟩
theorem Pot.ne {H : Hp} {a l : Addr} (p : Pot H a) (n : H l = none) : l ≠ a := fun z => by
  obtain ⟨_, _, e, _⟩ := p
  rw [z, e] at n
  cases n
def spPot (K : PySem.W.Frag) : Sp := fun vs H Q _ => ∃ (a : Addr) (ns : List Int), vs = [.ref a, .int 0] ∧ SqL K H a (ns.map V.int) ∧ ns.length ≤ 63 ∧ ∀ p H', H p = none → Kp H H' → Pot H' p → Q (.ref p) H'
def spDraw : Sp := fun vs H Q _ => ∃ (a : Addr) (m : Int), vs = [.ref a, .int m] ∧ Pot H a ∧ 0 < m ∧ m < 1073741824 ∧ ∀ d H', 0 ≤ d → d < m → Bt a H H' → Pot H' a → Q (.int d) H'
def spPick (K : PySem.W.Frag) : Sp := fun vs H Q _ => ∃ (a b : Addr) (xs : List V), vs = [.ref a, .ref b] ∧ Pot H a ∧ b ≠ a ∧ SqL K H b xs ∧ 0 < xs.length ∧ xs.length ≤ 1000 ∧ ∀ x H', x ∈ xs → Bt a H H' → Pot H' a → Q x H'

/-- how often p goes into n, and what is left; f turns at most -/
def pull (p : Nat) : Nat → Nat → Nat → Nat × Nat
  | 0, n, o => (n, o)
  | f + 1, n, o => if n % p = 0 then pull p f (n / p) (o + 1) else (n, o)
/-- the primes of n from p on, with how often; f turns at most -/
def facGo : Nat → Nat → Nat → List (Nat × Nat)
  | 0, n, _ => if 1 < n then [(n, 1)] else []
  | f + 1, n, p => if p * p ≤ n then
      (if 0 < (pull p n n 0).2 then [(p, (pull p n n 0).2)] else []) ++ facGo f (pull p n n 0).1 (p + 1)
    else if 1 < n then [(n, 1)] else []
def facM (n : Nat) : List (Nat × Nat) := facGo n n 2
theorem pull_le (p : Nat) : ∀ (f n o : Nat), (pull p f n o).1 ≤ n
  | 0, n, o => Nat.le_refl _
  | f + 1, n, o => by
    unfold pull
    split
    · exact Nat.le_trans (pull_le p f (n / p) (o + 1)) (Nat.div_le_self _ _)
    · exact Nat.le_refl _
theorem pull_pos {p : Nat} (hp : 2 ≤ p) : ∀ (f n o : Nat), 1 ≤ n → 1 ≤ (pull p f n o).1
  | 0, n, o, h => h
  | f + 1, n, o, h => by
    unfold pull
    split
    · rename_i hd
      refine pull_pos hp f (n / p) (o + 1) ?_
      have h1 : p ≤ n := Nat.le_of_dvd (by omega) (Nat.dvd_of_mod_eq_zero hd)
      exact (Nat.one_le_div_iff (by omega)).mpr h1
    · exact h
def pairD (x : Nat × Nat) : PyData := .tuple [.int x.1, .int x.2]

def primeM (n : Nat) : Bool := decide (2 ≤ n ∧ n ≤ 3000) && decide (facM n = [(n, 1)])
def hasRoot (r p : Nat) : Bool := (List.range (p / 2)).any fun i => decide ((i + 1) * (i + 1) % p = r)
def sym (r p : Nat) : Int := if r = 0 then 0 else if hasRoot r p = true then 1 else -1
theorem eqvPair (x y : Nat × Nat) : PyData.eqv (pairD x) (pairD y) = decide (x = y) := by
  obtain ⟨a, b⟩ := x
  obtain ⟨c, d⟩ := y
  have e : PyData.eqv (pairD (a, b)) (pairD (c, d)) = (((a : Int) == (c : Int)) && (((b : Int) == (d : Int)) && true)) := by simp only [pairD, PyData.eqv, PyData.eqvAll]
  rw [e]
  by_cases h1 : a = c
  · by_cases h2 : b = d
    · subst h1; subst h2; simp
    · have z : ((b : Int) == (d : Int)) = false := beq_eq_false_iff_ne.mpr (by omega)
      rw [z]; simp [h2]
  · have z : ((a : Int) == (c : Int)) = false := beq_eq_false_iff_ne.mpr (by omega)
    rw [z]; simp [h1]
theorem eqvPairs : ∀ xs ys : List (Nat × Nat), PyData.eqvAll (xs.map pairD) (ys.map pairD) = decide (xs = ys)
  | [], [] => rfl
  | [], y :: ys => rfl
  | x :: xs, [] => rfl
  | x :: xs, y :: ys => by
    show (PyData.eqv (pairD x) (pairD y) && PyData.eqvAll (xs.map pairD) (ys.map pairD)) = _
    rw [eqvPair, eqvPairs xs ys]
    by_cases h1 : x = y
    · by_cases h2 : xs = ys <;> simp [h1, h2]
    · simp [h1]
theorem pairs_lay : ∀ xs : List (Nat × Nat), PyData.canLayAll0 (xs.map pairD) = true
  | [] => by simp [PyData.canLayAll0]
  | x :: xs => by
    have h := pairs_lay xs
    simp only [List.map_cons, PyData.canLayAll0, h, pairD, PyData.canLay0, Bool.and_self]
theorem pairs_depth : ∀ xs : List (Nat × Nat), PyData.depthAll (xs.map pairD) ≤ 1
  | [] => by simp [PyData.depthAll]
  | x :: xs => by
    have h := pairs_depth xs
    simp only [List.map_cons, PyData.depthAll, pairD, PyData.depth]
    omega
theorem pairs_shaped (xs : List (Nat × Nat)) : SeqAt.shaped (.list (xs.map pairD)) = true := by
  have h := pairs_depth xs
  show (PyData.canLay0 (.list (xs.map pairD)) && decide (PyData.depth (.list (xs.map pairD)) ≤ 64)) = true
  rw [Bool.and_eq_true]
  refine ⟨by simp only [PyData.canLay0]; exact pairs_lay xs, decide_eq_true ?_⟩
  show PyData.depthAll (xs.map pairD) + 1 ≤ 64
  omega

/-! ### symbols: plain arithmetic -/
def lroot (r p : Nat) : Bool := (List.range (p - 1)).any fun i => decide ((i + 1) * (i + 1) % p = r)
def lsym (r p : Nat) : Int := if r = 0 then 0 else if lroot r p = true then 1 else -1
theorem sqNeg {p x : Nat} (h : x ≤ p) : (p - x) * (p - x) % p = x * x % p := by
  have e : (((p - x) * (p - x) % p : Nat) : Int) = ((x * x % p : Nat) : Int) := by
    rw [Int.natCast_emod, Int.natCast_emod, Int.natCast_mul, Int.natCast_mul, Int.natCast_sub h]
    have e2 : ((p : Int) - x) * (p - x) = x * x + p * (p - 2 * x) := by
      rw [Int.sub_mul, Int.mul_sub, Int.mul_sub, Int.mul_sub, Int.mul_comm (x : Int) p, ← Int.mul_assoc, Int.mul_comm (p : Int) 2, Int.mul_assoc]
      omega
    rw [e2, Int.add_mul_emod_self_left]
  omega
theorem root_iff {r p : Nat} (p3 : 3 ≤ p) (r0 : r ≠ 0) : hasRoot r p = true ↔ ∃ x : Nat, x * x % p = r := by
  constructor
  · intro h
    obtain ⟨i, _, e⟩ := List.any_eq_true.mp h
    exact ⟨i + 1, of_decide_eq_true e⟩
  · rintro ⟨x, e⟩
    have e1 : (x % p) * (x % p) % p = r := by rw [← Nat.mul_mod]; exact e
    have l : x % p < p := Nat.mod_lt _ (by omega)
    have n0 : x % p ≠ 0 := fun z => r0 (by rw [← e1, z]; simp)
    by_cases c : x % p ≤ p / 2
    · refine List.any_eq_true.mpr ⟨x % p - 1, List.mem_range.mpr (by omega), decide_eq_true ?_⟩
      rw [show x % p - 1 + 1 = x % p by omega]
      exact e1
    · refine List.any_eq_true.mpr ⟨p - x % p - 1, List.mem_range.mpr (by omega), decide_eq_true ?_⟩
      rw [show p - x % p - 1 + 1 = p - x % p by omega, sqNeg (by omega)]
      exact e1
theorem lroot_iff {r p : Nat} (p3 : 3 ≤ p) (r0 : r ≠ 0) : lroot r p = true ↔ ∃ x : Nat, x * x % p = r := by
  constructor
  · intro h
    obtain ⟨i, _, e⟩ := List.any_eq_true.mp h
    exact ⟨i + 1, of_decide_eq_true e⟩
  · rintro ⟨x, e⟩
    have e1 : (x % p) * (x % p) % p = r := by rw [← Nat.mul_mod]; exact e
    have l : x % p < p := Nat.mod_lt _ (by omega)
    have n0 : x % p ≠ 0 := fun z => r0 (by rw [← e1, z]; simp)
    refine List.any_eq_true.mpr ⟨x % p - 1, List.mem_range.mpr (by omega), decide_eq_true ?_⟩
    rw [show x % p - 1 + 1 = x % p by omega]
    exact e1
theorem sym_lsym {r p : Nat} (p3 : 3 ≤ p) : sym r p = lsym r p := by
  unfold sym lsym
  by_cases r0 : r = 0
  · rw [if_pos r0, if_pos r0]
  · rw [if_neg r0, if_neg r0]
    by_cases h : hasRoot r p = true
    · rw [if_pos h, if_pos ((lroot_iff p3 r0).mpr ((root_iff p3 r0).mp h))]
    · rw [if_neg h, if_neg fun z => h ((root_iff p3 r0).mpr ((lroot_iff p3 r0).mp z))]
def tab : List Nat := [3, 5, 7, 11, 13, 17, 19, 23, 29, 31, 37, 41, 43, 47, 53, 59, 61, 67, 71, 73, 79, 83, 89, 97]
def wtab : List Nat := [101, 499, 997, 1499]
theorem tab_ok : ∀ p ∈ tab, primeM p = true ∧ primeM (p * p) = false ∧ 3 ≤ p ∧ p ≤ 97 := by decide +kernel
theorem tab_sum : ∀ p ∈ tab, p < 40 → ((List.range p).map fun i => sym i p).sum = 0 := by decide +kernel
/-- Euler's rule, number by number -/
theorem tab_euler : ∀ p ∈ tab, (List.range p).all (fun r => decide (r = 0 ∨ (sym r p = 1 ∧ r ^ (p / 2) % p = 1) ∨ (sym r p = -1 ∧ r ^ (p / 2) % p = p - 1))) = true := by decide +kernel
theorem euler {p r : Nat} (hp : p ∈ tab) (l : r < p) : r = 0 ∨ (sym r p = 1 ∧ r ^ (p / 2) % p = 1) ∨ (sym r p = -1 ∧ r ^ (p / 2) % p = p - 1) :=
  of_decide_eq_true (List.all_eq_true.mp (tab_euler p hp) r (List.mem_range.mpr l))
theorem sym_zero (p : Nat) : sym 0 p = 0 := by unfold sym; rw [if_pos rfl]
theorem pSq {p : Nat} (h : 2 ≤ p) : (p - 1) * (p - 1) % p = 1 := by
  rw [sqNeg (by omega)]
  exact Nat.mod_eq_of_lt h
theorem sym_mul {p a b : Nat} (hp : p ∈ tab) (la : a < p) (lb : b < p) : sym (a * b % p) p = sym a p * sym b p := by
  have p3 := (tab_ok p hp).2.2.1
  rcases euler hp la with a0 | ea
  · subst a0
    rw [Nat.zero_mul, Nat.zero_mod, sym_zero, Int.zero_mul]
  · rcases euler hp lb with b0 | eb
    · subst b0
      rw [Nat.mul_zero, Nat.zero_mod, sym_zero, Int.mul_zero]
    · have lc : a * b % p < p := Nat.mod_lt _ (by omega)
      have ec := euler hp lc
      have pw : (a * b % p) ^ (p / 2) % p = (a ^ (p / 2) % p) * (b ^ (p / 2) % p) % p := by
        rw [← Nat.pow_mod, Nat.mul_pow, ← Nat.mul_mod]
      have h0 : p / 2 ≠ 0 := by omega
      have hz : a * b % p = 0 → (a ^ (p / 2) % p) * (b ^ (p / 2) % p) % p = 0 := fun z => by rw [← pw, z, Nat.zero_pow (by omega), Nat.zero_mod]
      have s1 := pSq (show 2 ≤ p by omega)
      have s2 : (p - 1) % p = p - 1 := Nat.mod_eq_of_lt (by omega)
      have s3 : 1 % p = 1 := Nat.mod_eq_of_lt (by omega)
      rw [pw] at ec
      rcases ea with ⟨sa, wa⟩ | ⟨sa, wa⟩ <;> rcases eb with ⟨sb, wb⟩ | ⟨sb, wb⟩ <;> rw [wa, wb] at ec hz <;> rw [sa, sb] <;>
        (first | rw [Nat.one_mul] at ec hz | rw [Nat.mul_one] at ec hz | skip) <;>
        (first | rw [s1] at ec hz | rw [s2] at ec hz | rw [s3] at ec hz | skip) <;>
        rcases ec with c | ⟨c, d⟩ | ⟨c, d⟩ <;> first | (exact c) | (have := hz c; omega) | omega
/-- what is nought by none of the four is turned back -/
theorem wtab_ok : ∀ p ∈ wtab, primeM p = true ∧ 3 ≤ p ∧ p ≤ 1499 ∧ sym (p - 1) p = (if p % 4 = 1 then 1 else -1) := by decide +kernel
theorem wtab_inv : ∀ p ∈ wtab, (List.range p).all (fun x => decide (x = 0 ∨ x * (x ^ (p - 2) % p) % p = 1)) = true := by decide +kernel
theorem winv {p x : Nat} (hp : p ∈ wtab) (l : x < p) (h : x ≠ 0) : ∃ y, x * y % p = 1 := by
  rcases of_decide_eq_true (List.all_eq_true.mp (wtab_inv p hp) x (List.mem_range.mpr l)) with z | z
  · exact absurd z h
  · exact ⟨_, z⟩
theorem back {p x y r : Nat} (e : x * y % p = 1) (lr : r < p) : (y * y) * (x * x * r % p) % p = r := by
  have e1 : (y * y) * (x * x * r % p) % p = (y * y) * (x * x * r) % p := by
    rw [Nat.mul_mod, Nat.mod_mod, ← Nat.mul_mod]
  rw [e1, show (y * y) * (x * x * r) = ((x * y) * (x * y)) * r by simp only [Nat.mul_assoc, Nat.mul_comm, Nat.mul_left_comm]]
  rw [Nat.mul_mod, Nat.mul_mod (x * y), e, Nat.mul_one]
  rw [← Nat.mul_mod, Nat.one_mul, Nat.mod_eq_of_lt lr]
theorem sym_sqmul {p x r : Nat} (hp : p ∈ wtab) (x0 : x ≠ 0) (lx : x < p) (lr : r < p) : sym (x * x * r % p) p = sym r p := by
  obtain ⟨_, p3, _, _⟩ := wtab_ok p hp
  obtain ⟨y, e⟩ := winv hp lx x0
  have bk := back e lr
  by_cases r0 : r = 0
  · subst r0
    rw [Nat.mul_zero, Nat.zero_mod]
  · have n0 : x * x * r % p ≠ 0 := fun z => r0 (by rw [← bk, z, Nat.mul_zero, Nat.zero_mod])
    unfold sym
    rw [if_neg n0, if_neg r0]
    have key : hasRoot (x * x * r % p) p = true ↔ hasRoot r p = true := by
      rw [root_iff p3 n0, root_iff p3 r0]
      constructor
      · rintro ⟨t, et⟩
        refine ⟨y * t, ?_⟩
        rw [show y * t * (y * t) = (y * y) * (t * t) by simp only [Nat.mul_assoc, Nat.mul_comm, Nat.mul_left_comm]]
        rw [Nat.mul_mod, et, ← Nat.mul_mod_mod, Nat.mod_mul_mod, Nat.mod_mod]
        exact bk
      · rintro ⟨t, et⟩
        refine ⟨x * t, ?_⟩
        rw [show x * t * (x * t) = (x * x) * (t * t) by simp only [Nat.mul_assoc, Nat.mul_comm, Nat.mul_left_comm]]
        rw [Nat.mul_mod, et, Nat.mod_mul_mod]
    by_cases h : hasRoot r p = true
    · rw [if_pos h, if_pos (key.mpr h)]
    · rw [if_neg h, if_neg fun z => h (key.mp z)]
theorem sym_sq {p x : Nat} (hp : p ∈ wtab) (x0 : x ≠ 0) (lx : x < p) : sym (x * x % p) p = 1 := by
  obtain ⟨_, p3, _, _⟩ := wtab_ok p hp
  have h := sym_sqmul hp x0 lx (show 1 < p by omega)
  rw [Nat.mul_one] at h
  rw [h]
  unfold sym
  rw [if_neg (by decide), if_pos]
  exact (root_iff p3 (by decide)).mpr ⟨1, Nat.mod_eq_of_lt (by omega)⟩
/-! ### rests of whole numbers of any sign -/
theorem rest_mul (a b : Int) {p : Nat} (h : 0 < p) : (a * b % p).toNat = (a % p).toNat * (b % p).toNat % p := by
  have a0 := Int.emod_nonneg a (show (p : Int) ≠ 0 by omega)
  have b0 := Int.emod_nonneg b (show (p : Int) ≠ 0 by omega)
  have c0 := Int.emod_nonneg (a * b) (show (p : Int) ≠ 0 by omega)
  obtain ⟨x, ex⟩ := Int.eq_ofNat_of_zero_le a0
  obtain ⟨y, ey⟩ := Int.eq_ofNat_of_zero_le b0
  have e : a * b % p = ((x * y % p : Nat) : Int) := by
    rw [Int.mul_emod, ex, ey]; rfl
  rw [e, ex, ey]
  rfl
theorem rest_lt (a : Int) {p : Nat} (h : 0 < p) : (a % p).toNat < p := by
  have a0 := Int.emod_nonneg a (show (p : Int) ≠ 0 by omega)
  have a1 := Int.emod_lt_of_pos a (show (0 : Int) < p by omega)
  omega
theorem rest_nat (n : Nat) {p : Nat} : ((n : Int) % p).toNat = n % p := by
  have e : (n : Int) % p = ((n % p : Nat) : Int) := rfl
  rw [e]; rfl
theorem lsym_b (r p : Nat) : -1 ≤ lsym r p ∧ lsym r p ≤ 1 := by
  unfold lsym
  split
  · decide
  · split <;> decide
theorem unit_mul {a b : Int} (ha : -1 ≤ a ∧ a ≤ 1) (hb : -1 ≤ b ∧ b ≤ 1) : -1 ≤ a * b ∧ a * b ≤ 1 := by
  have : a = -1 ∨ a = 0 ∨ a = 1 := by omega
  rcases this with e | e | e <;> subst e <;> omega
theorem unit_ok {f : Nat} {ns : List Int} (h : ∀ n ∈ ns, -1 ≤ n ∧ n ≤ 1) : okD (f + 1) (.list (ns.map PyData.int)) = true := by
  show okAll f (ns.map PyData.int) = true
  exact okInts fun n hn => shortInt (by have := h n hn; omega)
def topS (i : Nat) : Stmt := PySem.Challenge.pw_etaparts_k12_whole_symbols_by_squares.main.body.getD i (.Pass ⟨0, 0, 0, 0⟩)
abbrev s_is_integer : Stmt := topS 5
theorem sc_is_integer : FnScope ["value"] ["value"] (defScope s_is_integer) := ⟨rfl, rfl, rfl, by decide +kernel, rfl, by decide +kernel, by decide +kernel⟩
abbrev s_is_within : Stmt := topS 6
theorem sc_is_within : FnScope ["value", "low", "high"] ["value", "low", "high"] (defScope s_is_within) := ⟨rfl, rfl, rfl, by decide +kernel, rfl, by decide +kernel, by decide +kernel⟩
abbrev s_check_integer : Stmt := topS 7
theorem sc_check_integer : FnScope ["number"] ["number"] (defScope s_check_integer) := ⟨rfl, rfl, rfl, by decide +kernel, rfl, by decide +kernel, by decide +kernel⟩
abbrev s_factored : Stmt := topS 9
theorem sc_factored : FnScope ["number", "found", "prime", "often"] ["number"] (defScope s_factored) := ⟨rfl, rfl, rfl, by decide +kernel, rfl, by decide +kernel, by decide +kernel⟩
abbrev s_is_prime : Stmt := topS 10
theorem sc_is_prime : FnScope ["value"] ["value"] (defScope s_is_prime) := ⟨rfl, rfl, rfl, by decide +kernel, rfl, by decide +kernel, by decide +kernel⟩
abbrev s_symbol : Stmt := topS 11
theorem sc_symbol : FnScope ["first", "prime", "rest", "root"] ["first", "prime"] (defScope s_symbol) := ⟨rfl, rfl, rfl, by decide +kernel, rfl, by decide +kernel, by decide +kernel⟩
abbrev s_law_pot : Stmt := topS 13
theorem sc_law_pot : FnScope ["script", "k", "cell"] ["script", "k"] (defScope s_law_pot) := ⟨rfl, rfl, rfl, by decide +kernel, rfl, by decide +kernel, by decide +kernel⟩
abbrev s_law_draw : Stmt := topS 14
theorem sc_law_draw : FnScope ["pot", "many", "digit"] ["pot", "many"] (defScope s_law_draw) := ⟨rfl, rfl, rfl, by decide +kernel, rfl, by decide +kernel, by decide +kernel⟩
abbrev s_law_pick : Stmt := topS 15
theorem sc_law_pick : FnScope ["pot", "some"] ["pot", "some"] (defScope s_law_pick) := ⟨rfl, rfl, rfl, by decide +kernel, rfl, by decide +kernel, by decide +kernel⟩
abbrev s_law_symbol : Stmt := topS 16
theorem sc_law_symbol : FnScope ["number", "prime", "rest", "one"] ["number", "prime"] (defScope s_law_symbol) := ⟨rfl, rfl, rfl, by decide +kernel, rfl, by decide +kernel, by decide +kernel⟩
abbrev s_law_right : Stmt := topS 17
theorem sc_law_right : FnScope ["pot", "prime", "one", "other", "near", "far", "told", "some", "wide", "root", "rest"] ["pot"] (defScope s_law_right) := ⟨rfl, rfl, rfl, by decide +kernel, rfl, by decide +kernel, by decide +kernel⟩
abbrev s_law : Stmt := topS 18
theorem sc_law : FnScope ["script"] ["script"] (defScope s_law) := ⟨rfl, rfl, rfl, by decide +kernel, rfl, by decide +kernel, by decide +kernel⟩
structure Tx (K : PySem.W.Frag) (mg : Str → Option Value) where
  f_is_integer : Addr
  fd_is_integer : FuncData
  F_is_integer : Fun K "is_integer" "is_integer" s_is_integer f_is_integer fd_is_integer
  m_is_integer : mg "is_integer" = some (.ref f_is_integer)
  b_is_integer : Binds K fd_is_integer ["value"] []
  f_is_within : Addr
  fd_is_within : FuncData
  F_is_within : Fun K "is_within" "is_within" s_is_within f_is_within fd_is_within
  m_is_within : mg "is_within" = some (.ref f_is_within)
  b_is_within : Binds K fd_is_within ["value", "low", "high"] []
  f_check_integer : Addr
  fd_check_integer : FuncData
  F_check_integer : Fun K "check_integer" "check_integer" s_check_integer f_check_integer fd_check_integer
  m_check_integer : mg "check_integer" = some (.ref f_check_integer)
  b_check_integer : Binds K fd_check_integer ["number"] []
  f_factored : Addr
  fd_factored : FuncData
  F_factored : Fun K "factored" "factored" s_factored f_factored fd_factored
  m_factored : mg "factored" = some (.ref f_factored)
  b_factored : Binds K fd_factored ["number"] []
  f_is_prime : Addr
  fd_is_prime : FuncData
  F_is_prime : Fun K "is_prime" "is_prime" s_is_prime f_is_prime fd_is_prime
  m_is_prime : mg "is_prime" = some (.ref f_is_prime)
  b_is_prime : Binds K fd_is_prime ["value"] []
  f_symbol : Addr
  fd_symbol : FuncData
  F_symbol : Fun K "symbol" "symbol" s_symbol f_symbol fd_symbol
  m_symbol : mg "symbol" = some (.ref f_symbol)
  b_symbol : Binds K fd_symbol ["first", "prime"] []
  f_law_pot : Addr
  fd_law_pot : FuncData
  F_law_pot : Fun K "_law_pot" "_law_pot" s_law_pot f_law_pot fd_law_pot
  m_law_pot : mg "_law_pot" = some (.ref f_law_pot)
  b_law_pot : Binds K fd_law_pot ["script", "k"] []
  f_law_draw : Addr
  fd_law_draw : FuncData
  F_law_draw : Fun K "_law_draw" "_law_draw" s_law_draw f_law_draw fd_law_draw
  m_law_draw : mg "_law_draw" = some (.ref f_law_draw)
  b_law_draw : Binds K fd_law_draw ["pot", "many"] []
  f_law_pick : Addr
  fd_law_pick : FuncData
  F_law_pick : Fun K "_law_pick" "_law_pick" s_law_pick f_law_pick fd_law_pick
  m_law_pick : mg "_law_pick" = some (.ref f_law_pick)
  b_law_pick : Binds K fd_law_pick ["pot", "some"] []
  f_law_symbol : Addr
  fd_law_symbol : FuncData
  F_law_symbol : Fun K "_law_symbol" "_law_symbol" s_law_symbol f_law_symbol fd_law_symbol
  m_law_symbol : mg "_law_symbol" = some (.ref f_law_symbol)
  b_law_symbol : Binds K fd_law_symbol ["number", "prime"] []
  f_law_right : Addr
  fd_law_right : FuncData
  F_law_right : Fun K "_law_right" "_law_right" s_law_right f_law_right fd_law_right
  m_law_right : mg "_law_right" = some (.ref f_law_right)
  b_law_right : Binds K fd_law_right ["pot"] []
  f_law : Addr
  fd_law : FuncData
  F_law : Fun K "law" "law" s_law f_law fd_law
  m_law : mg "law" = some (.ref f_law)
  b_law : Binds K fd_law ["script"] []
  kb_symbol_0 : KBinds K fd_symbol ["first", "prime"] ["prime", "first"] (fun us ws => match us, ws with | [], [ws0, ws1] => [ws1, ws0] | _, _ => []) (fun us ws => match us, ws with | [], [ws0, ws1] => [ws1, ws0] | _, _ => [])
  z_abs : mg "abs" = none
  z_any : mg "any" = none
  z_bool : mg "bool" = none
  z_divmod : mg "divmod" = none
  z_int : mg "int" = none
  z_isinstance : mg "isinstance" = none
  z_len : mg "len" = none
  z_max : mg "max" = none
  z_range : mg "range" = none
  z_repr : mg "repr" = none
  z_sum : mg "sum" = none
section
variable {P : Program} {w : World} {K : PySem.W.Frag} {mg : Str → Option Value} {base : Heap}

theorem ok_law_draw (T : Tx K mg) : FnOk P w K mg base CX0 1 T.f_law_draw T.fd_law_draw ["pot", "many"] spDraw := by
  refine T.F_law_draw.ok sc_law_draw (fun vs H Q E h => ?_) (fun cdv A outer s H vs Q E hr h => ?_)
  · obtain ⟨a, m, rfl, _⟩ := h
    rfl
  · obtain ⟨a, m, rfl, ⟨p0, p1, hp, h0, h1, h2⟩, m0, m1, q⟩ := h
    refine ⟨_, (pss_cons (ps_if (pt_cmpR op_gt (pe_ix ix_list (pv 0) pe_int (fun _ _ => rfl)) pe_int (nomark _)) (pss_cons (ps_asg (pe_callB call_divmod (by rfl) T.z_divmod (by decide +kernel) (pa_cons (pe_ix ix_list (pv 0) pe_int (fun _ _ => rfl)) (pa_cons (pv 1) pa_nil))) (pg_tup rfl (pgs_cons (pg_sub (pv 0) pe_int set_list) (pgs_cons (pg_name (i := 2) sc_law_draw.nd rfl (.inl rfl)) pgs_nil))))
  (pss_one (ps_ret (pv 2)))) pss_nil)
  (pss_cons (ps_asg (pe_op op_mod (pe_callTy call_int1 (by rfl) T.z_int (by decide +kernel) (pa_cons (pe_op op_add (pe_op op_mul (pe_ix ix_list (pv 0) pe_int (fun _ _ => rfl)) pe_int) pe_int) pa_nil)) pe_int) (pg_sub (pv 0) pe_int set_list))
  (pss_one (ps_ret (pe_op op_mod (pe_callTy call_int1 (by rfl) T.z_int (by decide +kernel) (pa_cons (pe_op op_fdiv (pe_op op_mod (pe_callTy call_int1 (by rfl) T.z_int (by decide +kernel) (pa_cons (pe_op op_mul (pe_ix ix_list (pv 0) pe_int (fun _ _ => rfl)) (pe_ix ix_list (pv 0) pe_int (fun _ _ => rfl))) pa_nil)) pe_int) pe_int) pa_nil)) (pv 1)))))), ?_⟩
    -- if pot[0] > 0
    refine ⟨.ref a, rfl, a, _, 0, .int p0, rfl, rfl, sqL hp, rfl, p0, 0, rfl, rfl, _, rfl, ite2 (fun c => ?_) (fun c => ?_)⟩
    · refine ⟨.ref a, rfl, a, _, 0, .int p0, rfl, rfl, sqL hp, rfl, .int m, rfl, p0, m, rfl, ⟨m0, m1⟩, fun t nt => ?_⟩
      have nta : a ≠ t := ne_of_none hp nt
      have hp1 : (upd H t (.tup [.int (p0 / m), .int (p0 % m)])) a = some (.lst [.int p0, .int p1]) := by rw [upd_ne nta]; exact hp
      refine ⟨t, _, rfl, sqT upd_same, rfl, .int (p0 / m), _, rfl, ?_⟩
      refine ⟨.ref a, rfl, a, _, 0, 0, rfl, rfl, hp1, rfl, ?_⟩
      refine ⟨.int (p0 % m), _, rfl, rfl, ?_⟩
      refine ⟨_, rfl, ?_⟩
      refine q (p0 % m) _ (Int.emod_nonneg _ (by omega)) (Int.emod_lt_of_pos _ m0) ?_ ?_
      · exact (Kp.new nt).bt.trans Bt.upd
      · exact ⟨p0 / m, p1, upd_same, Int.ediv_nonneg h0 (by omega), h1, h2⟩
    · -- pot[1] is turned on
      refine ⟨.ref a, rfl, a, _, 1, .int p1, rfl, rfl, sqL hp, rfl, p1, _, rfl, rfl, .inl ⟨by omega, by omega⟩, _, _, rfl, rfl, .inl ⟨_, rfl, _, _, rfl, rfl, (show (0 : Int) < 2147483587 by decide), ?_⟩⟩
      have b0 := Int.emod_nonneg (p1 * 39373 + 1319) (show (2147483587 : Int) ≠ 0 by decide)
      have b1 := Int.emod_lt_of_pos (p1 * 39373 + 1319) (show (0 : Int) < 2147483587 by decide)
      refine ⟨.ref a, rfl, a, _, 1, 1, rfl, rfl, hp, rfl, ?_⟩
      have hp2 : (upd H a (.lst [.int p0, .int ((p1 * 39373 + 1319) % 2147483587)])) a = some (.lst [.int p0, .int ((p1 * 39373 + 1319) % 2147483587)]) := upd_same
      refine ⟨.ref a, rfl, a, _, 1, _, rfl, rfl, sqL hp2, rfl, .ref a, rfl, a, _, 1, _, rfl, rfl, sqL hp2, rfl, _, _, rfl, rfl, .inl ⟨by omega, by omega⟩, .inl ⟨_, rfl, _, _, rfl, rfl, (show (0 : Int) < 2147483563 by decide), ?_⟩⟩
      refine ⟨_, _, rfl, rfl, ⟨by decide, by decide⟩, .inl ⟨_, rfl, .int m, rfl, _, m, rfl, rfl, m0, ?_⟩⟩
      exact q _ _ (Int.emod_nonneg _ (by omega)) (Int.emod_lt_of_pos _ m0) Bt.upd ⟨p0, _, upd_same, h0, b0, by omega⟩

theorem ok_law_pot (T : Tx K mg) : FnOk P w K mg base CX0 1 T.f_law_pot T.fd_law_pot ["script", "k"] (spPot K) := by
  refine T.F_law_pot.ok sc_law_pot (fun vs H Q E h => ?_) (fun cdv A outer s H vs Q E hr h => ?_)
  · obtain ⟨a, ns, rfl, _⟩ := h
    rfl
  · obtain ⟨a, ns, rfl, hS, hl, q⟩ := h
    refine ⟨_, (pss_cons (ps_set (i := 2) sc_law_pot.nd rfl (.inl rfl) (pe_op op_add (pe_op op_mul pe_int (pv 1)) pe_int))
  (pss_cons (ps_if (pt_cmpR op_lt (pv 1) (pe_callB call_len_seq (by rfl) T.z_len (by decide +kernel) (pa_cons (pv 0) pa_nil)) (nomark _)) (pss_one (ps_set (i := 2) sc_law_pot.nd rfl (.inl rfl) (pe_callB call_abs (by rfl) T.z_abs (by decide +kernel) (pa_cons (pe_ix ix_list (pv 0) (pv 1) (fun _ _ => rfl)) pa_nil)))) pss_nil)
  (pss_one (ps_ret (pe_lst (pa_cons (pe_callB (call_max2 rfl) (by rfl) T.z_max (by decide +kernel) (pa_cons pe_int (pa_cons (pe_op op_sub (pv 2) (pe_op op_pow pe_int pe_int)) pa_nil))) (pa_cons (pe_op op_add (pe_op op_mod (pe_callTy call_int1 (by rfl) T.z_int (by decide +kernel) (pa_cons (pe_op op_add (pe_op op_add (pe_op op_mul (pe_op op_mod (pe_callTy call_int1 (by rfl) T.z_int (by decide +kernel) (pa_cons (pv 2) pa_nil)) pe_int) pe_int) (pe_op op_mul pe_int (pv 1))) pe_int) pa_nil)) pe_int) pe_int) pa_nil))))))), ?_⟩
    refine ⟨.int 0, rfl, 1511, 0, rfl, rfl, .inl ⟨by decide, by decide⟩, _, _, rfl, rfl, ?_⟩
    refine ⟨.int 0, rfl, .ref a, rfl, a, _, rfl, .inl hS, 0, _, rfl, rfl, _, rfl, ite2 (fun c => ?_) (fun c => ?_)⟩
    obtain ⟨x, r, rfl⟩ : ∃ x r, ns = x :: r := by
      cases ns with
      | nil => cases c
      | cons x r => exact ⟨x, r, rfl⟩
    refine ⟨.ref a, rfl, .int 0, rfl, a, _, 0, .int x, rfl, rfl, hS, atI_nat (j := 0) rfl, _, rfl, ?_⟩
    all_goals
      refine ⟨_, rfl, 10, 18, rfl, rfl, ⟨by decide, by decide, by decide⟩, _, _, rfl, rfl, _, _, rfl, ?_⟩
      refine ⟨_, rfl, .inl ⟨_, rfl, _, _, rfl, rfl, (show (0 : Int) < 2147483549 by decide), ?_⟩⟩
    all_goals
      have e0 : ∀ z : Int, 0 ≤ z % 2147483549 := fun z => Int.emod_nonneg z (by decide)
      have e1 : ∀ z : Int, z % 2147483549 < 2147483549 := fun z => Int.emod_lt_of_pos z (by decide)
      refine ⟨_, _, rfl, rfl, .inl ⟨Int.lt_of_lt_of_le (by decide) (e0 _), Int.lt_trans (e1 _) (by decide)⟩, ?_⟩
    all_goals
      refine ⟨.int 0, rfl, _, _, rfl, rfl, .inl ⟨by decide, by decide⟩, _, _, rfl, rfl, _, _, rfl, rfl, .inl ⟨_, rfl, _, _, rfl, rfl, (show (0 : Int) < 2147483563 by decide), ?_⟩⟩
    all_goals
      have f0 : ∀ z : Int, 0 ≤ z % 2147483563 := fun z => Int.emod_nonneg z (by decide)
      have f1 : ∀ z : Int, z % 2147483563 < 2147483563 := fun z => Int.emod_lt_of_pos z (by decide)
      refine ⟨_, _, rfl, rfl, szOk (show 2 ≤ 100000 by decide), fun p hp => q p _ hp (Kp.new hp) ⟨_, _, upd_same, ?_, Int.add_nonneg (f0 _) (by decide), ?_⟩⟩
    all_goals first
      | exact Int.lt_of_lt_of_le (Int.add_lt_add_right (f1 _) 1) (by decide)
      | (split <;> omega)

theorem ok_law_pick (T : Tx K mg) : FnOk P w K mg base CX0 2 T.f_law_pick T.fd_law_pick ["pot", "some"] (spPick K) := by
  have G_law_draw := ok_law_draw (P := P) (w := w) (base := base) T
  refine T.F_law_pick.ok sc_law_pick (fun vs H Q E h => ?_) (fun cdv A outer s H vs Q E hr h => ?_)
  · obtain ⟨a, b, xs, rfl, _⟩ := h
    rfl
  · obtain ⟨a, b, xs, rfl, hp, nb, hS, l0, l1, q⟩ := h
    refine ⟨_, (pss_one (ps_ret (pe_ix ix_list (pv 1) (pe_call G_law_draw (hr.mono (by decide)) (by rfl) T.m_law_draw T.F_law_draw.kp T.b_law_draw .nil pass0 (pa_cons (pv 0) (pa_cons (pe_callB call_len_seq (by rfl) T.z_len (by decide +kernel) (pa_cons (pv 1) pa_nil)) pa_nil))) (fun _ _ => rfl)))), ?_⟩
    refine ⟨.ref b, rfl, .ref a, rfl, .ref b, rfl, b, xs, rfl, .inl hS, ?_⟩
    refine ⟨a, _, rfl, hp, by omega, by omega, fun d H1 d0 d1 k p1 => ?_⟩
    have hd : d.toNat < xs.length := by omega
    have ed : d = ((d.toNat : Nat) : Int) := by omega
    rw [ed]
    refine ⟨b, xs, _, xs[d.toNat], rfl, rfl, k.sq nb hS, atI_nat (List.getElem?_eq_getElem hd), ?_⟩
    exact q _ _ (List.getElem_mem hd) k p1

def spIsInteger : Sp := fun vs H Q _ => ∃ i : Int, vs = [.int i] ∧ Q (.bl true) H
theorem ok_is_integer (T : Tx K mg) : FnOk P w K mg base CX0 1 T.f_is_integer T.fd_is_integer ["value"] spIsInteger := by
  refine T.F_is_integer.ok sc_is_integer (fun vs H Q E h => ?_) (fun cdv A outer s H vs Q E hr h => ?_)
  · obtain ⟨i, rfl, _⟩ := h
    rfl
  · obtain ⟨i, rfl, q⟩ := h
    refine ⟨_, (pss_one (ps_ret (pe_and (pe_callB call_isi (by rfl) T.z_isinstance (by decide +kernel) (pa_cons (pv 0) (pa_cons (pe_bltn (v := .ty "int") (by rfl) T.z_int (by decide +kernel) rfl) pa_nil))) (pe_one (pe_not (pe_callB call_isi (by rfl) T.z_isinstance (by decide +kernel) (pa_cons (pv 0) (pa_cons (pe_bltn (v := .ty "bool") (by rfl) T.z_bool (by decide +kernel) rfl) pa_nil)))))))), ?_⟩
    refine ⟨.int i, rfl, _, _, .type "int", .type "int", true, rfl, .ty _, .base (.int i), kit_ty (by decide +kernel), true, rfl, ?_⟩
    exact ⟨.int i, rfl, _, _, .type "int", .type "bool", false, rfl, .ty _, .base (.int i), kit_ty (by decide +kernel), false, rfl, q⟩

def spIsWithin : Sp := fun vs H Q _ => ∃ i lo hi : Int, vs = [.int i, .int lo, .int hi] ∧ Q (.bl (decide (lo ≤ i ∧ i ≤ hi))) H
theorem ok_is_within (T : Tx K mg) : FnOk P w K mg base CX0 2 T.f_is_within T.fd_is_within ["value", "low", "high"] spIsWithin := by
  have G_is_integer := ok_is_integer (P := P) (w := w) (base := base) T
  refine T.F_is_within.ok sc_is_within (fun vs H Q E h => ?_) (fun cdv A outer s H vs Q E hr h => ?_)
  · obtain ⟨i, lo, hi, rfl, _⟩ := h
    rfl
  · obtain ⟨i, lo, hi, rfl, q⟩ := h
    refine ⟨_, (pss_one (ps_ret (pe_and (pe_call G_is_integer (hr.mono (by decide)) (by rfl) T.m_is_integer T.F_is_integer.kp T.b_is_integer .nil pass0 (pa_cons (pv 0) pa_nil)) (pe_one (pe_chain op_le op_le (pv 1) (pv 0) (pv 2)))))), ?_⟩
    refine ⟨.int i, rfl, i, rfl, true, rfl, ?_⟩
    refine ⟨.int lo, rfl, .int i, rfl, lo, i, rfl, rfl, _, rfl, ?_⟩
    by_cases c : lo ≤ i
    · rw [if_pos (decide_eq_true c)]
      refine ⟨.int hi, rfl, i, hi, rfl, rfl, ?_⟩
      have e : decide (lo ≤ i ∧ i ≤ hi) = decide (i ≤ hi) := by simp [c]
      rw [e] at q
      exact q
    · rw [if_neg (by simp [c])]
      have e : decide (lo ≤ i ∧ i ≤ hi) = false := by simp [c]
      rw [e] at q
      exact q

def spCheckInteger : Sp := fun vs H Q _ => ∃ i : Int, vs = [.int i] ∧ Q .non H
theorem ok_check_integer (T : Tx K mg) : FnOk P w K mg base CX0 2 T.f_check_integer T.fd_check_integer ["number"] spCheckInteger := by
  have G_is_integer := ok_is_integer (P := P) (w := w) (base := base) T
  refine T.F_check_integer.ok sc_check_integer (fun vs H Q E h => ?_) (fun cdv A outer s H vs Q E hr h => ?_)
  · obtain ⟨i, rfl, _⟩ := h
    rfl
  · obtain ⟨i, rfl, q⟩ := h
    refine ⟨_, (pss_one (ps_if (pt_not (pt_val (pe_call G_is_integer (hr.mono (by decide)) (by rfl) T.m_is_integer T.F_is_integer.kp T.b_is_integer .nil pass0 (pa_cons (pv 0) pa_nil)))) (pss_one ps_never) pss_nil)), ?_⟩
    exact ⟨.int i, rfl, i, rfl, true, rfl, q⟩

def spFactored (K : PySem.W.Frag) : Sp := fun vs H Q _ => ∃ n : Nat, vs = [.int n] ∧ 1 ≤ n ∧ n ≤ 1000000000 ∧ ∀ p H', H p = none → Kp H H' → Dp K H' (.ref p) (.list ((facM n).map pairD)) → Q (.ref p) H'
def FacOut (K : PySem.W.Frag) (n : Nat) (D : Addr) (H : Hp) (m : Nat) (σ : L2.St) (H' : Hp) : Prop :=
  ∃ (k p : Nat) (acc : List (Nat × Nat)) (xs : List V) (x3 : Option V), σ = [some (.int k), some (.ref D), some (.int p), x3] ∧ 1 ≤ k ∧ k ≤ n ∧ 2 ≤ p ∧ p ≤ 40000 ∧ k ≤ m + p ∧ acc.length ≤ p ∧
    facM n = acc ++ facGo m k p ∧ H' D = some (.lst xs) ∧ DpAll K H' xs (acc.map pairD) ∧ xs.length = acc.length ∧ (∀ b o, b ≠ D → H b = some o → H' b = some o)
theorem dpAll_snoc {K : PySem.W.Frag} {H : Hp} {v : V} {d : PyData} (h : Dp K H v d) : ∀ {vs : List V} {ds : List PyData}, DpAll K H vs ds → DpAll K H (vs ++ [v]) (ds ++ [d])
  | _, _, .nil => .cons h .nil
  | _, _, .cons a r => .cons a (dpAll_snoc h r)
/-- data of tuples of numbers stands where the list that holds them is changed -/
theorem dpPairs {K : PySem.W.Frag} {H H' : Hp} {D : Addr} (k : ∀ b o, b ≠ D → H b = some o → H' b = some o) {zs : List V} (hD : H D = some (.lst zs)) :
    ∀ {vs : List V} {acc : List (Nat × Nat)}, DpAll K H vs (acc.map pairD) → DpAll K H' vs (acc.map pairD)
  | _, [], h => by cases h; exact .nil
  | _, x :: r, h => by
    cases h with
    | cons a b =>
      refine .cons ?_ (dpPairs k hD b)
      unfold pairD at a ⊢
      cases a with
      | @tup a2 xs2 ds2 hs ha =>
        refine .tup (xs := xs2) ?_ ?_
        · cases hs with
          | inl q =>
            cases q with
            | inl q => exact .inl (.inl (k _ _ (fun e => by rw [e, hD] at q; cases q) q))
            | inr q =>
              obtain ⟨o, q⟩ := q
              exact .inl (.inr ⟨o, k _ _ (fun e => by rw [e, hD] at q; cases q) q⟩)
          | inr q => exact .inr q
        · cases ha with
          | cons b1 b2 =>
            cases b2 with
            | cons b3 b4 =>
              cases b4
              cases b1
              cases b3
              exact .cons (.int _) (.cons (.int _) .nil)
theorem ok_factored (T : Tx K mg) : FnOk P w K mg base CX0 1 T.f_factored T.fd_factored ["number"] (spFactored K) := by
  refine T.F_factored.ok sc_factored (fun vs H Q E h => ?_) (fun cdv A outer s H vs Q E hr h => ?_)
  · obtain ⟨n, rfl, _⟩ := h
    rfl
  · obtain ⟨n, rfl, n1, n2, q⟩ := h
    refine ⟨_, (pss_cons (ps_set (i := 1) sc_factored.nd rfl (.inl rfl) (pe_lst pa_nil))
  (pss_cons (ps_set (i := 2) sc_factored.nd rfl (.inl rfl) pe_int)
  (pss_cons (ps_while PassesOwn.never (pt_cmpR op_le (pe_op op_mul (pv 2) (pv 2)) (pv 0) (nomark _)) (pss_cons (ps_set (i := 3) sc_factored.nd rfl (.inl rfl) pe_int)
  (pss_cons (ps_while PassesOwn.never (pt_cmpR op_eq (pe_op op_mod (pv 0) (pv 2)) pe_int (nomark _)) (pss_cons (ps_aug (i := 0) sc_factored.nd rfl (.inl rfl) (pv 2) iop_fdivW)
  (pss_one (ps_aug (i := 3) sc_factored.nd rfl (.inl rfl) pe_int ip_add))))
  (pss_cons (ps_if (pt_cmpR op_gt (pv 3) pe_int (nomark _)) (pss_one (ps_expr (pe_bm PySem.F.plainAttrs_list PySem.F.slot_list_append PySem.F.type_list_append mt_append (pv 1) (pa_cons (pe_tup (pa_cons (pv 2) (pa_cons (pv 3) pa_nil))) pa_nil)))) pss_nil)
  (pss_one (ps_aug (i := 2) sc_factored.nd rfl (.inl rfl) pe_int ip_add))))))
  (pss_cons (ps_if (pt_cmpR op_gt (pv 0) pe_int (nomark _)) (pss_one (ps_expr (pe_bm PySem.F.plainAttrs_list PySem.F.slot_list_append PySem.F.type_list_append mt_append (pv 1) (pa_cons (pe_tup (pa_cons (pv 0) (pa_cons pe_int pa_nil))) pa_nil)))) pss_nil)
  (pss_one (ps_ret (pv 1))))))), ?_⟩
    refine ⟨szOk (show 0 ≤ 100000 by decide), fun D hD => ?_⟩
    -- the outer loop
    refine ⟨FacOut K n D H, ⟨n, n, 2, [], [], none, rfl, n1, Nat.le_refl _, Nat.le_refl _, by omega, by omega, by simp, rfl, upd_same, .nil, rfl, fun b o nb e => by rw [upd_ne nb]; exact e⟩, ?_⟩
    rintro m σ H' ⟨k, p, acc, xs, x3, rfl, k1, kn, p2, pn, km, la, ef, eD, dp, lx, kp⟩
    refine ⟨.int p, rfl, .int p, rfl, p, p, rfl, rfl, .inl ⟨by omega, by omega⟩, .int k, rfl, _, k, rfl, rfl, _, rfl, ite2 (fun c => ?_) (fun c => ?_)⟩
    · have c1 : p * p ≤ k := by
        have c2 : (p : Int) * p ≤ k := of_decide_eq_true c
        exact_mod_cast c2
      have p3 : p < 40000 := by
        refine Nat.lt_of_not_le fun z => ?_
        have z2 : 40000 * 40000 ≤ p * p := Nat.mul_le_mul z z
        omega
      have pp : p + p ≤ p * p := by
        have := Nat.mul_le_mul_right p p2
        omega
      obtain ⟨f, rfl⟩ : ∃ f, m = f + 1 := ⟨m - 1, by omega⟩
      have ef1 : facGo (f + 1) k p = (if 0 < (pull p k k 0).2 then [(p, (pull p k k 0).2)] else []) ++ facGo f (pull p k k 0).1 (p + 1) := by
        rw [facGo, if_pos c1]
      refine ⟨FacOut K n D H f, fun σ' H' h => ⟨f, Nat.lt_succ_self f, h⟩, ?_⟩
      -- often = 0; the inner loop
      refine ⟨fun g σ' H'' => ∃ (j o : Nat), σ' = [some (.int j), some (.ref D), some (.int p), some (.int o)] ∧ 1 ≤ j ∧ j ≤ k ∧ j ≤ g ∧ o ≤ k ∧ pull p g j o = pull p k k 0 ∧ H'' = H' ∧ j + o ≤ k, ⟨k, k, 0, rfl, k1, Nat.le_refl _, Nat.le_refl _, Nat.zero_le _, rfl, rfl, by omega⟩, ?_⟩
      rintro g σ' H'' ⟨j, o, rfl, j1, jk, jg, ok, ep, rfl, jo⟩
      refine ⟨.int j, rfl, .int p, rfl, j, p, rfl, rfl, (show (0 : Int) < p by omega), rfl, _, rfl, ite2 (fun d => ?_) (fun d => ?_)⟩
      · have d1 : j % p = 0 := by
          have d2 : V.int ((j : Int) % p) = V.int 0 := of_decide_eq_true d
          have d3 : (j : Int) % p = 0 := V.int.inj d2
          exact_mod_cast d3
        obtain ⟨g2, rfl⟩ : ∃ g2, g = g2 + 1 := ⟨g - 1, by omega⟩
        have ep1 : pull p (g2 + 1) j o = pull p g2 (j / p) (o + 1) := by rw [pull, if_pos d1]
        have dv : p ∣ j := Nat.dvd_of_mod_eq_zero d1
        have h1 : 1 ≤ j / p := (Nat.one_le_div_iff (by omega)).mpr (Nat.le_of_dvd (by omega) dv)
        have h2 : j / p < j := Nat.div_lt_self (by omega) (by omega)
        refine ⟨fun σ3 H3 => ∃ (j o : Nat), σ3 = [some (.int j), some (.ref D), some (.int p), some (.int o)] ∧ 1 ≤ j ∧ j ≤ k ∧ j ≤ g2 ∧ o ≤ k ∧ pull p g2 j o = pull p k k 0 ∧ H3 = H'' ∧ j + o ≤ k, fun σ3 H3 h => ⟨g2, Nat.lt_succ_self _, h⟩, ?_⟩
        refine ⟨.int j, rfl, .int p, rfl, j, p, rfl, rfl, wide_div (b := 20) (by omega) (by omega) (by decide) (by decide), ?_⟩
        refine ⟨.int o, rfl, o, 1, rfl, rfl, ?_⟩
        exact ⟨j / p, o + 1, rfl, h1, by omega, by omega, by omega, by rw [← ep1]; exact ep, rfl, by omega⟩
      · have d1 : ¬ j % p = 0 := fun z => d (decide_eq_true (congrArg V.int (by exact_mod_cast z)))
        have ep1 : pull p k k 0 = (j, o) := by
          rw [← ep]
          cases g with
          | zero => rfl
          | succ g2 => rw [pull, if_neg d1]
        rw [ep1] at ef1
        refine ⟨.int o, rfl, o, 0, rfl, rfl, _, rfl, ite2 (fun e => ?_) (fun e => ?_)⟩
        · have e1 : 0 < o := by
            have e2 : (0 : Int) < o := of_decide_eq_true e
            exact_mod_cast e2
          have ef2 : facGo (f + 1) k p = [(p, o)] ++ facGo f j (p + 1) := by rw [ef1, if_pos e1]
          refine ⟨.ref D, rfl, .inl ⟨rfl, _, sqL eD⟩, .int p, rfl, .int o, rfl, szOk (show 2 ≤ 100000 by decide), fun t nt => ?_⟩
          have nD : D ≠ t := ne_of_none eD nt
          have eD1 : (upd H'' t (.tup [.int p, .int o])) D = some (.lst xs) := by rw [upd_ne nD]; exact eD
          refine ⟨D, _, _, rfl, rfl, eD1, szLt (by omega), ?_⟩
          refine ⟨.int p, rfl, p, 1, rfl, rfl, ?_⟩
          refine ⟨j, p + 1, acc ++ [(p, o)], xs ++ [.ref t], some (.int o), rfl, j1, by omega, by omega, by omega, by omega, by simp; omega, ?_, upd_same, ?_, by simp [lx], ?_⟩
          · rw [ef, ef2, List.append_assoc]
          · rw [List.map_append]
            refine dpAll_snoc ?_ (dpPairs (H := H'') (D := D) ?_ eD dp)
            · refine .tup (sqT (a := t) (xs := [.int p, .int o]) ?_) (.cons (.int _) (.cons (.int _) .nil))
              rw [upd_ne nD.symm, upd_same]
            · intro b u nb q
              rw [upd_ne nb, upd_ne (ne_of_none q nt)]
              exact q
          · intro b u nb q
            rw [upd_ne nb, upd_ne (ne_of_none (kp b u nb q) nt)]
            exact kp b u nb q
        · have e1 : ¬ 0 < o := fun z => e (decide_eq_true (by exact_mod_cast z))
          have ef2 : facGo (f + 1) k p = facGo f j (p + 1) := by rw [ef1, if_neg e1]; rfl
          refine ⟨.int p, rfl, p, 1, rfl, rfl, ?_⟩
          exact ⟨j, p + 1, acc, xs, some (.int o), rfl, j1, by omega, by omega, by omega, by omega, by omega, by rw [ef, ef2], eD, dp, lx, kp⟩
    · have c1 : ¬ p * p ≤ k := fun z => c (decide_eq_true (by exact_mod_cast z))
      have ef1 : facGo m k p = if 1 < k then [(k, 1)] else [] := by
        cases m with
        | zero => rfl
        | succ m => rw [facGo, if_neg c1]
      have fresh : ∀ {p2 : Addr} {X : Hp}, True := fun {_ _} => trivial
      refine ⟨.int k, rfl, k, 1, rfl, rfl, _, rfl, ite2 (fun e => ?_) (fun e => ?_)⟩
      · have e1 : 1 < k := by
          have e2 : (1 : Int) < k := of_decide_eq_true e
          exact_mod_cast e2
        refine ⟨.ref D, rfl, .inl ⟨rfl, _, sqL eD⟩, .int k, rfl, szOk (show 2 ≤ 100000 by decide), fun t nt => ?_⟩
        have nD : D ≠ t := ne_of_none eD nt
        have eD1 : (upd H' t (.tup [.int k, .int 1])) D = some (.lst xs) := by rw [upd_ne nD]; exact eD
        refine ⟨D, _, _, rfl, rfl, eD1, szLt (by omega), ?_⟩
        refine ⟨.ref D, rfl, q D _ hD ?_ ?_⟩
        · intro b u z
          have nb : b ≠ D := ne_of_none z hD
          rw [upd_ne nb, upd_ne (ne_of_none (kp b u nb z) nt)]
          exact kp b u nb z
        · rw [ef, ef1, if_pos e1, List.map_append]
          refine .lst (sqL upd_same) (dpAll_snoc ?_ (dpPairs (H := H') (D := D) ?_ eD dp))
          · refine .tup (sqT (a := t) (xs := [.int k, .int 1]) ?_) (.cons (.int _) (.cons (.int _) .nil))
            rw [upd_ne nD.symm, upd_same]
          · intro b u nb z
            rw [upd_ne nb, upd_ne (ne_of_none z nt)]
            exact z
      · have e1 : ¬ 1 < k := fun z => e (decide_eq_true (by exact_mod_cast z))
        refine ⟨.ref D, rfl, q D _ hD (fun b u z => kp b u (ne_of_none z hD) z) ?_⟩
        rw [ef, ef1, if_neg e1, List.append_nil]
        exact .lst (sqL eD) dp

def spIsPrime : Sp := fun vs H Q _ => ∃ n : Nat, vs = [.int n] ∧ ∀ H', Kp H H' → Q (.bl (primeM n)) H'
theorem ok_is_prime (T : Tx K mg) : FnOk P w K mg base CX0 3 T.f_is_prime T.fd_is_prime ["value"] spIsPrime := by
  have G_is_within := ok_is_within (P := P) (w := w) (base := base) T
  have G_factored := ok_factored (P := P) (w := w) (base := base) T
  refine T.F_is_prime.ok sc_is_prime (fun vs H Q E h => ?_) (fun cdv A outer s H vs Q E hr h => ?_)
  · obtain ⟨n, rfl, _⟩ := h
    rfl
  · obtain ⟨n, rfl, q⟩ := h
    refine ⟨_, (pss_one (ps_ret (pe_and (pe_call G_is_within (hr.mono (by decide)) (by rfl) T.m_is_within T.F_is_within.kp T.b_is_within .nil pass0 (pa_cons (pv 0) (pa_cons pe_int (pa_cons pe_int pa_nil)))) (pe_one (pe_cmpR (op_eqD hr.units) (pe_call G_factored (hr.mono (by decide)) (by rfl) T.m_factored T.F_factored.kp T.b_factored .nil pass0 (pa_cons (pv 0) pa_nil)) (pe_lst (pa_cons (pe_tup (pa_cons (pv 0) (pa_cons pe_int pa_nil))) pa_nil)) (nomark _)))))), ?_⟩
    refine ⟨.int n, rfl, n, 2, 3000, rfl, _, rfl, ?_⟩
    by_cases c : 2 ≤ n ∧ n ≤ 3000
    · rw [if_pos (decide_eq_true (show (2 : Int) ≤ n ∧ (n : Int) ≤ 3000 by omega))]
      refine ⟨.int n, rfl, n, rfl, by omega, by omega, fun p H1 np k1 d1 => ?_⟩
      refine ⟨.int n, rfl, szOk (show 2 ≤ 100000 by decide), fun t nt => szOk (show 1 ≤ 100000 by decide) |> fun z => ⟨z, fun l nl => ?_⟩⟩
      have k2 : Kp H1 (upd (upd H1 t (.tup [.int n, .int 1])) l (.lst [.ref t])) := (Kp.new nt).trans (Kp.new nl)
      refine ⟨_, .list ([(n, 1)].map pairD), k2.dp _ _ d1, .lst (sqL upd_same) (.cons (.tup (xs := [.int n, .int 1]) (sqT ?_) (.cons (.int _) (.cons (.int _) .nil))) .nil), pairs_shaped _, pairs_shaped _, ?_⟩
      · rw [upd_ne (ne_of_none upd_same nl), upd_same]
      · have e : primeM n = PyData.eqv (.list ((facM n).map pairD)) (.list ([(n, 1)].map pairD)) := by
          simp only [PyData.eqv]
          rw [eqvPairs]
          unfold primeM
          rw [decide_eq_true c, Bool.true_and]
        have q2 := q _ (k1.trans k2)
        rw [e] at q2
        exact q2
    · rw [if_neg (fun z => c (by have := of_decide_eq_true z; omega))]
      have e : primeM n = false := by
        unfold primeM
        rw [decide_eq_false c, Bool.false_and]
      have q2 := q H (Kp.refl H)
      rw [e] at q2
      exact q2

end
end K12

namespace K12
open PySem PySem.Spec PyProof.Rows L2 EP
section
variable {P : Program} {w : World} {K : PySem.W.Frag} {mg : Str → Option Value} {base : Heap}

def spSymbol : Sp := fun vs H Q _ => ∃ (f : Int) (p : Nat), vs = [.int f, .int p] ∧ primeM p = true ∧ 3 ≤ p ∧ ∀ H', Kp H H' → Q (.int (sym (f % p).toNat p)) H'
theorem ok_symbol (T : Tx K mg) : FnOk P w K mg base CX0 4 T.f_symbol T.fd_symbol ["first", "prime"] spSymbol := by
  have G_check_integer := ok_check_integer (P := P) (w := w) (base := base) T
  have G_is_prime := ok_is_prime (P := P) (w := w) (base := base) T
  refine T.F_symbol.ok sc_symbol (fun vs H Q E h => ?_) (fun cdv A outer s H vs Q E hr h => ?_)
  · obtain ⟨f, p, rfl, _⟩ := h
    rfl
  · obtain ⟨f, p, rfl, hp, p3, q⟩ := h
    have pm : p ≤ 3000 := by
      unfold primeM at hp
      rw [Bool.and_eq_true] at hp
      exact (of_decide_eq_true hp.1).2
    refine ⟨_, (pss_cons (ps_expr (pe_call G_check_integer (hr.mono (by decide)) (by rfl) T.m_check_integer T.F_check_integer.kp T.b_check_integer .nil pass0 (pa_cons (pv 0) pa_nil)))
  (pss_cons (ps_if (PW.pt (pw_or (pt_not (pt_val (pe_call G_is_prime (hr.mono (by decide)) (by rfl) T.m_is_prime T.F_is_prime.kp T.b_is_prime .nil pass0 (pa_cons (pv 1) pa_nil)))) (pw_or1 (pt_cmpR op_eq (pv 1) pe_int (nomark _))))) (pss_one ps_never) pss_nil)
  (pss_cons (ps_set (i := 2) sc_symbol.nd rfl (.inr rfl) (pe_op op_mod (pv 0) (pv 1)))
  (pss_cons (ps_if (pt_cmpR op_eq (pv 2) pe_int (nomark _)) (pss_one (ps_ret pe_int)) pss_nil)
  (pss_cons (ps_if (pt_val (pe_callB (cr_any rfl) (by rfl) T.z_any (by decide +kernel) (pa_cons (pe_lc (own := [("root", 3)]) (g := gName 3) (tt := tYes) (by rfl) sc_symbol.nd (pi_range2 (by rfl) T.z_range (pa_cons pe_int (pa_cons (pe_op op_add (pe_op op_fdiv (pv 1) pe_int) pe_int) pa_nil))) (blkOk_by (own := [("root", 3)]) (N := ["first", "prime", "rest", "root"]) (sc := defScope s_symbol) (by decide +kernel)) (fun _ _ _ _ _ => pg_name (i := 3) sc_symbol.nd rfl (.inl rfl)) (fun _ _ _ _ _ => pts_nil) (fun _ _ _ _ _ => (pe_cmpR op_eq (pe_op op_mod (pe_op op_mul (pv 3) (pv 3)) (pv 1)) (pv 2) (nomark _)))) pa_nil))) (pss_one (ps_ret pe_int)) pss_nil)
  (pss_one (ps_ret (pe_un un_neg pe_int)))))))), ?_⟩
    refine ⟨.int f, rfl, f, rfl, ?_⟩
    refine ⟨.int p, rfl, p, rfl, fun H1 k1 => ?_⟩
    rw [hp]
    refine ⟨true, rfl, ?_⟩
    refine ⟨.int p, rfl, rfl, _, rfl, ite2 (fun c => ?_) (fun c => ?_)⟩
    · have := V.int.inj (of_decide_eq_true c)
      omega
    · have r0 := Int.emod_nonneg f (show (p : Int) ≠ 0 by omega)
      have r1 := Int.emod_lt_of_pos f (show (0 : Int) < p by omega)
      obtain ⟨r, er⟩ : ∃ r : Nat, f % p = (r : Int) := ⟨(f % p).toNat, by omega⟩
      have er2 : (f % p).toNat = r := by omega
      rw [er2] at q
      refine ⟨.int f, rfl, .int p, rfl, f, p, rfl, rfl, (show (0 : Int) < p by omega), ?_⟩
      refine ⟨.int r, congrArg (fun z => some (some (V.int z))) er, rfl, _, rfl, ite2 (fun c => ?_) (fun c => ?_)⟩
      · have c1 : r = 0 := by
          have := V.int.inj (of_decide_eq_true c)
          omega
        have e : sym r p = 0 := by unfold sym; rw [if_pos c1]
        rw [e] at q
        exact q H1 k1
      · have c1 : r ≠ 0 := fun z => c (decide_eq_true (congrArg V.int (by omega)))
        have hb : ∀ j : Nat, decide (V.int ((1 + (j : Int)) * (1 + j) % p) = V.int r) = decide ((j + 1) * (j + 1) % p = r) := fun j => by
          have e : (1 + (j : Int)) * (1 + j) % p = (((j + 1) * (j + 1) % p : Nat) : Int) := by
            rw [Int.add_comm 1 (j : Int)]; rfl
          rw [e]
          by_cases z : (j + 1) * (j + 1) % p = r
          · rw [z]; simp
          · rw [decide_eq_false z]
            exact decide_eq_false fun y => z (by have := V.int.inj y; omega)
        refine ⟨.int p, rfl, p, 2, rfl, rfl, ⟨by decide, by decide⟩, _, _, rfl, rfl, 1, _, rfl, ⟨by omega, by omega, by omega, by omega⟩, fun D hD => ?_⟩
        refine lc_range (fun i H => H D = some (.lst ((List.range i).map fun j => V.bl (decide ((j + 1) * (j + 1) % p = r)))) ∧ Kp H1 H) ⟨upd_same, Kp.new hD⟩ ?_ ?_
        · rintro i H2 hi ⟨e2, k2⟩
          refine ⟨rfl, ?_⟩
          refine ⟨.int (1 + i), rfl, .int (1 + i), rfl, _, _, rfl, rfl, .inl ⟨by omega, by omega⟩, .int p, rfl, _, p, rfl, rfl, (show (0 : Int) < p by omega), .int r, congrArg (fun z => some (some (V.int z))) er, rfl, ?_⟩
          refine ⟨_, e2, szLt (by rw [List.length_map, List.length_range]; omega), ?_, ?_⟩
          · rw [upd_same, List.range_succ, List.map_append]
            exact congrArg (fun z => some (HO.lst (_ ++ [V.bl z]))) (hb i)
          · intro b u z
            rw [upd_ne (ne_of_none z hD)]
            exact k2 b u z
        · rintro H2 ⟨e2, k2⟩
          have hn : ((p : Int) / 2 + 1 - 1).toNat = p / 2 := by omega
          rw [hn] at e2
          refine ⟨D, (List.range (p / 2)).map fun j => decide ((j + 1) * (j + 1) % p = r), rfl, sqL (by rw [e2, List.map_map]; rfl), _, rfl, ite2 (fun d => ?_) (fun d => ?_)⟩
          · have d1 : hasRoot r p = true := by rw [List.any_map] at d; exact d
            have e : sym r p = 1 := by unfold sym; rw [if_neg c1, if_pos d1]
            rw [e] at q
            exact q H2 (k1.trans k2)
          · have d1 : ¬ hasRoot r p = true := by rw [List.any_map] at d; exact d
            have e : sym r p = -1 := by unfold sym; rw [if_neg c1, if_neg d1]
            rw [e] at q
            exact ⟨1, rfl, q H2 (k1.trans k2)⟩

def spLawSymbol : Sp := fun vs H Q _ => ∃ (f : Int) (p : Nat), vs = [.int f, .int p] ∧ 3 ≤ p ∧ p ≤ 3000 ∧ ∀ H', Kp H H' → Q (.int (lsym (f % p).toNat p)) H'
theorem ok_law_symbol (T : Tx K mg) : FnOk P w K mg base CX0 1 T.f_law_symbol T.fd_law_symbol ["number", "prime"] spLawSymbol := by
  refine T.F_law_symbol.ok sc_law_symbol (fun vs H Q E h => ?_) (fun cdv A outer s H vs Q E hr h => ?_)
  · obtain ⟨f, p, rfl, _⟩ := h
    rfl
  · obtain ⟨f, p, rfl, p3, pm, q⟩ := h
    refine ⟨_, (pss_cons (ps_set (i := 2) sc_law_symbol.nd rfl (.inl rfl) (pe_op op_mod (pe_callTy call_int1 (by rfl) T.z_int (by decide +kernel) (pa_cons (pv 0) pa_nil)) (pv 1)))
  (pss_cons (ps_if (pt_cmpR op_eq (pv 2) pe_int (nomark _)) (pss_one (ps_ret pe_int)) pss_nil)
  (pss_one (ps_ret (pe_ifExp (pt_cmpR op_in_seq (pv 2) (pe_lc (own := [("one", 3)]) (g := gName 3) (tt := tYes) (by rfl) sc_law_symbol.nd (pi_range2 (by rfl) T.z_range (pa_cons pe_int (pa_cons (pv 1) pa_nil))) (blkOk_by (own := [("one", 3)]) (N := ["number", "prime", "rest", "one"]) (sc := defScope s_law_symbol) (by decide +kernel)) (fun _ _ _ _ _ => pg_name (i := 3) sc_law_symbol.nd rfl (.inl rfl)) (fun _ _ _ _ _ => pts_nil) (fun _ _ _ _ _ => (pe_op op_mod (pe_op op_mul (pv 3) (pv 3)) (pv 1)))) (by rfl)) pe_int (pe_un un_neg pe_int)))))), ?_⟩
    have r0 := Int.emod_nonneg f (show (p : Int) ≠ 0 by omega)
    have r1 := Int.emod_lt_of_pos f (show (0 : Int) < p by omega)
    obtain ⟨r, er⟩ : ∃ r : Nat, f % p = (r : Int) := ⟨(f % p).toNat, by omega⟩
    have er2 : (f % p).toNat = r := by omega
    rw [er2] at q
    refine ⟨.int f, rfl, .inl ⟨_, rfl, .int p, rfl, f, p, rfl, rfl, (show (0 : Int) < p by omega), ?_⟩⟩
    refine ⟨.int r, congrArg (fun z => some (some (V.int z))) er, rfl, _, rfl, ite2 (fun c => ?_) (fun c => ?_)⟩
    · have c1 : r = 0 := by
        have := V.int.inj (of_decide_eq_true c)
        omega
      have e : lsym r p = 0 := by unfold lsym; rw [if_pos c1]
      rw [e] at q
      exact q H (Kp.refl H)
    · have c1 : r ≠ 0 := fun z => c (decide_eq_true (congrArg V.int (by omega)))
      refine ⟨.int r, congrArg (fun z => some (some (V.int z))) er, .int p, rfl, 1, p, rfl, ⟨by decide, by decide, by omega, by omega⟩, fun D hD => ?_⟩
      refine lc_range (fun i H2 => H2 D = some (.lst ((List.range i).map fun j => V.int ((j + 1) * (j + 1) % p : Nat))) ∧ Kp H H2) ⟨upd_same, Kp.new hD⟩ ?_ ?_
      · rintro i H2 hi ⟨e2, k2⟩
        refine ⟨rfl, ?_⟩
        refine ⟨.int (1 + i), rfl, .int (1 + i), rfl, _, _, rfl, rfl, .inl ⟨by omega, by omega⟩, .int p, rfl, _, p, rfl, rfl, (show (0 : Int) < p by omega), ?_⟩
        refine ⟨_, e2, szLt (by rw [List.length_map, List.length_range]; omega), ?_, ?_⟩
        · rw [upd_same, List.range_succ, List.map_append]
          have e : (1 + (i : Int)) * (1 + i) % p = (((i + 1) * (i + 1) % p : Nat) : Int) := by
            rw [Int.add_comm 1 (i : Int)]; rfl
          exact congrArg (fun z => some (HO.lst (_ ++ [V.int z]))) e
        · intro b u z
          rw [upd_ne (ne_of_none z hD)]
          exact k2 b u z
      · rintro H2 ⟨e2, k2⟩
        have hn : ((p : Int) - 1).toNat = p - 1 := by omega
        rw [hn] at e2
        have hin : inV (.int r) ((List.range (p - 1)).map fun j => V.int ((j + 1) * (j + 1) % p : Nat)) = lroot r p := by
          unfold inV lroot
          rw [List.any_map]
          refine congrArg (List.any _) (funext fun j => ?_)
          show decide (((((j + 1) * (j + 1) % p : Nat)) : Int) = (r : Int)) = decide ((j + 1) * (j + 1) % p = r)
          by_cases z : (j + 1) * (j + 1) % p = r
          · rw [z]; simp
          · rw [decide_eq_false z]
            exact decide_eq_false fun y => z (by omega)
        refine ⟨D, _, rfl, .inl (sqL e2), rfl, ?_, _, rfl, ite2 (fun d => ?_) (fun d => ?_)⟩
        · rw [List.all_eq_true]
          intro x hx
          obtain ⟨j, _, rfl⟩ := List.mem_map.mp hx
          rfl
        · have d1 : lroot r p = true := by rw [← hin]; exact d
          have e : lsym r p = 1 := by unfold lsym; rw [if_neg c1, if_pos d1]
          rw [e] at q
          exact q H2 k2
        · have d1 : ¬ lroot r p = true := by rw [← hin]; exact d
          have e : lsym r p = -1 := by unfold lsym; rw [if_neg c1, if_neg d1]
          rw [e] at q
          exact ⟨1, rfl, q H2 k2⟩

end
end K12

namespace K12
open PySem PySem.Spec PyProof.Rows L2 EP
section
variable {P : Program} {w : World} {K : PySem.W.Frag} {mg : Str → Option Value} {base : Heap}

def spRight : Sp := fun vs H Q _ => ∃ a : Addr, vs = [.ref a] ∧ Pot H a ∧ ∀ H', Q (.bl true) H'
theorem ok_law_right (T : Tx K mg) : GOk P w K mg base 5 T.f_law_right T.fd_law_right ["pot"] spRight := by
  have G_is_prime := ok_is_prime (P := P) (w := w) (base := base) T
  have G_symbol := ok_symbol (P := P) (w := w) (base := base) T
  have G_law_symbol := ok_law_symbol (P := P) (w := w) (base := base) T
  have G_law_draw := ok_law_draw (P := P) (w := w) (base := base) T
  have G_law_pick := ok_law_pick (P := P) (w := w) (base := base) T
  refine gok T.F_law_right sc_law_right (fun vs H Q E h => ?_) (fun cdv A outer s H vs Q hg hr h => ?_)
  · obtain ⟨a, rfl, _⟩ := h
    rfl
  · obtain ⟨a, rfl, hp, q⟩ := h
    refine ⟨_, (pss_cons (ps_set (i := 1) sc_law_right.nd rfl (.inr rfl) (pe_call G_law_pick (hr.mono (by decide)) (by rfl) T.m_law_pick T.F_law_pick.kp T.b_law_pick .nil pass0 (pa_cons (pv 0) (pa_cons (pe_lst (pa_cons pe_int (pa_cons pe_int (pa_cons pe_int (pa_cons pe_int (pa_cons pe_int (pa_cons pe_int (pa_cons pe_int (pa_cons pe_int (pa_cons pe_int (pa_cons pe_int (pa_cons pe_int (pa_cons pe_int (pa_cons pe_int (pa_cons pe_int (pa_cons pe_int (pa_cons pe_int (pa_cons pe_int (pa_cons pe_int (pa_cons pe_int (pa_cons pe_int (pa_cons pe_int (pa_cons pe_int (pa_cons pe_int (pa_cons pe_int pa_nil))))))))))))))))))))))))) pa_nil))))
  (pss_cons (ps_if (PW.pt (pw_or (pt_cmpR op_notBl (pe_call G_is_prime (hr.mono (by decide)) (by rfl) T.m_is_prime T.F_is_prime.kp T.b_is_prime .nil pass0 (pa_cons (pv 1) pa_nil)) pe_bl (nomark _)) (pw_or1 (pt_cmpR op_notBl (pe_call G_is_prime (hr.mono (by decide)) (by rfl) T.m_is_prime T.F_is_prime.kp T.b_is_prime .nil pass0 (pa_cons (pe_op op_mul (pv 1) (pv 1)) pa_nil)) pe_bl (nomark _))))) (pss_one (ps_ret pe_bl)) pss_nil)
  (pss_cons (ps_par (i := 2) (j := 3) rfl sc_law_right.nd rfl rfl (by decide) rfl rfl (pa_cons (pe_op op_sub (pe_call G_law_draw (hr.mono (by decide)) (by rfl) T.m_law_draw T.F_law_draw.kp T.b_law_draw .nil pass0 (pa_cons (pv 0) (pa_cons pe_int pa_nil))) pe_int) (pa_cons (pe_op op_sub (pe_call G_law_draw (hr.mono (by decide)) (by rfl) T.m_law_draw T.F_law_draw.kp T.b_law_draw .nil pass0 (pa_cons (pv 0) (pa_cons pe_int pa_nil))) pe_int) pa_nil)) (by rfl))
  (pss_cons (ps_par (i := 4) (j := 5) rfl sc_law_right.nd rfl rfl (by decide) rfl rfl (pa_cons (pe_call G_law_symbol (hr.mono (by decide)) (by rfl) T.m_law_symbol T.F_law_symbol.kp T.b_law_symbol .nil pass0 (pa_cons (pv 2) (pa_cons (pv 1) pa_nil))) (pa_cons (pe_call G_law_symbol (hr.mono (by decide)) (by rfl) T.m_law_symbol T.F_law_symbol.kp T.b_law_symbol .nil pass0 (pa_cons (pv 3) (pa_cons (pv 1) pa_nil))) pa_nil)) (by rfl))
  (pss_cons (ps_set (i := 6) sc_law_right.nd rfl (.inl rfl) (pe_lst (pa_cons (pe_call G_symbol (hr.mono (by decide)) (by rfl) T.m_symbol T.F_symbol.kp T.b_symbol .nil pass0 (pa_cons (pv 2) (pa_cons (pv 1) pa_nil))) (pa_cons (pe_kcall G_symbol (hr.mono (by decide)) (by rfl) T.m_symbol T.F_symbol.kp T.kb_symbol_0 pass0 (pk_cons (pv 1) (pk_cons (pv 3) pk_nil))) (pa_cons (pe_call G_symbol (hr.mono (by decide)) (by rfl) T.m_symbol T.F_symbol.kp T.b_symbol .nil pass0 (pa_cons (pe_op op_mul (pv 2) (pv 3)) (pa_cons (pv 1) pa_nil))) (pa_cons (pe_call G_symbol (hr.mono (by decide)) (by rfl) T.m_symbol T.F_symbol.kp T.b_symbol .nil pass0 (pa_cons (pe_op op_add (pv 2) (pe_op op_mul (pv 1) (pv 3))) (pa_cons (pv 1) pa_nil))) pa_nil))))))
  (pss_cons (ps_if (pt_cmpR op_ne (pe_callB (call_rep (by exact hg) (un66 hr)) (by rfl) T.z_repr (by decide +kernel) (pa_cons (pv 6) pa_nil)) (pe_callB (call_rep (by exact hg) (un66 hr)) (by rfl) T.z_repr (by decide +kernel) (pa_cons (pe_lst (pa_cons (pv 4) (pa_cons (pv 5) (pa_cons (pe_op op_mul (pv 4) (pv 5)) (pa_cons (pv 4) pa_nil))))) pa_nil)) (nomark _)) (pss_one (ps_ret pe_bl)) pss_nil)
  (C8.pss_cut (ps_if (pt_cmpR op_lt (pv 1) pe_int (nomark _)) (pss_cons (ps_setLc (i := 7) (own := [("rest", 10)]) (g := gName 10) (tt := tYes) rfl sc_law_right.nd rfl rfl (sw_true rfl rfl rfl (by decide +kernel)) (pi_range1 (by rfl) T.z_range (pa_cons (pv 1) pa_nil)) (blkOk_by (own := [("rest", 10)]) (N := ["pot", "prime", "one", "other", "near", "far", "told", "some", "wide", "root", "rest"]) (sc := defScope s_law_right) (by decide +kernel)) (fun _ _ _ _ _ => pg_name (i := 10) sc_law_right.nd rfl (.inl rfl)) (fun _ _ _ _ _ => pts_nil) (fun _ _ _ _ _ => (pe_call G_symbol (hr.mono (by decide)) (by rfl) T.m_symbol T.F_symbol.kp T.b_symbol .nil pass0 (pa_cons (pv 10) (pa_cons (pv 1) pa_nil)))))
  (pss_one (ps_if (PW.pt (pw_or (pt_cmpR (op_neD hr.units) (pv 7) (pe_lc (own := [("rest", 10)]) (g := gName 10) (tt := tYes) (by rfl) sc_law_right.nd (pi_range1 (by rfl) T.z_range (pa_cons (pv 1) pa_nil)) (blkOk_by (own := [("rest", 10)]) (N := ["pot", "prime", "one", "other", "near", "far", "told", "some", "wide", "root", "rest"]) (sc := defScope s_law_right) (by decide +kernel)) (fun _ _ _ _ _ => pg_name (i := 10) sc_law_right.nd rfl (.inl rfl)) (fun _ _ _ _ _ => pts_nil) (fun _ _ _ _ _ => (pe_call G_law_symbol (hr.mono (by decide)) (by rfl) T.m_law_symbol T.F_law_symbol.kp T.b_law_symbol .nil pass0 (pa_cons (pv 10) (pa_cons (pv 1) pa_nil))))) (nomark _)) (pw_or1 (pt_cmpR op_ne (pe_callB (cr_sum rfl) (by rfl) T.z_sum (by decide +kernel) (pa_cons (pv 7) pa_nil)) pe_int (nomark _))))) (pss_one (ps_ret pe_bl)) pss_nil))) pss_nil)
  (pss_cons (ps_set (i := 8) sc_law_right.nd rfl (.inl rfl) (pe_call G_law_pick (hr.mono (by decide)) (by rfl) T.m_law_pick T.F_law_pick.kp T.b_law_pick .nil pass0 (pa_cons (pv 0) (pa_cons (pe_lst (pa_cons pe_int (pa_cons pe_int (pa_cons pe_int (pa_cons pe_int pa_nil))))) pa_nil))))
  (pss_cons (ps_set (i := 9) sc_law_right.nd rfl (.inl rfl) (pe_op op_add pe_int (pe_call G_law_draw (hr.mono (by decide)) (by rfl) T.m_law_draw T.F_law_draw.kp T.b_law_draw .nil pass0 (pa_cons (pv 0) (pa_cons (pe_op op_sub (pv 8) pe_int) pa_nil)))))
  (pss_cons (ps_set (i := 6) sc_law_right.nd rfl (.inl rfl) (pe_lst (pa_cons (pe_call G_symbol (hr.mono (by decide)) (by rfl) T.m_symbol T.F_symbol.kp T.b_symbol .nil pass0 (pa_cons (pe_op op_mul (pv 9) (pv 9)) (pa_cons (pv 8) pa_nil))) (pa_cons (pe_call G_symbol (hr.mono (by decide)) (by rfl) T.m_symbol T.F_symbol.kp T.b_symbol .nil pass0 (pa_cons (pe_op op_mul (pe_op op_mul (pv 9) (pv 9)) (pv 2)) (pa_cons (pv 8) pa_nil))) (pa_cons (pe_call G_symbol (hr.mono (by decide)) (by rfl) T.m_symbol T.F_symbol.kp T.b_symbol .nil pass0 (pa_cons (pe_op op_mul (pv 8) (pv 3)) (pa_cons (pv 8) pa_nil))) (pa_cons (pe_call G_symbol (hr.mono (by decide)) (by rfl) T.m_symbol T.F_symbol.kp T.b_symbol .nil pass0 (pa_cons pe_int (pa_cons (pv 8) pa_nil))) pa_nil))))))
  (pss_cons (ps_if (pt_cmpR op_ne (pe_callB (call_rep (by exact hg) (un66 hr)) (by rfl) T.z_repr (by decide +kernel) (pa_cons (pv 6) pa_nil)) (pe_callB (call_rep (by exact hg) (un66 hr)) (by rfl) T.z_repr (by decide +kernel) (pa_cons (pe_lst (pa_cons pe_int (pa_cons (pe_call G_law_symbol (hr.mono (by decide)) (by rfl) T.m_law_symbol T.F_law_symbol.kp T.b_law_symbol .nil pass0 (pa_cons (pv 2) (pa_cons (pv 8) pa_nil))) (pa_cons pe_int (pa_cons pe_int pa_nil))))) pa_nil)) (nomark _)) (pss_one (ps_ret pe_bl)) pss_nil)
  (pss_one (ps_ret (pe_cmpR op_eq (pe_call G_symbol (hr.mono (by decide)) (by rfl) T.m_symbol T.F_symbol.kp T.b_symbol .nil pass0 (pa_cons (pe_un un_neg pe_int) (pa_cons (pv 8) pa_nil))) (pe_ifExp (pt_cmpR op_eq (pe_op op_mod (pv 8) pe_int) pe_int (nomark _)) pe_int (pe_un un_neg pe_int)) (nomark _))))))))))))))), ?_⟩
    -- prime = _law_pick(pot, [3, 5, ..])
    refine ⟨.ref a, rfl, szOk (show 24 ≤ 100000 by decide), fun l nl => ?_⟩
    have hp1 := hp.kp (Kp.new (o := .lst (tab.map fun n : Nat => V.int n)) nl)
    have nla : l ≠ a := fun z => by
      obtain ⟨_, _, e, _⟩ := hp
      rw [z, e] at nl
      cases nl
    refine ⟨a, l, tab.map fun n : Nat => V.int n, rfl, hp1, nla, sqL upd_same, by decide, by decide, fun x H1 hx k1 p1 => ?_⟩
    obtain ⟨p, hpt, rfl⟩ := List.mem_map.mp hx
    obtain ⟨pp, ppp, p3, p97⟩ := tab_ok p hpt
    -- is_prime both ways
    refine ⟨.int p, rfl, p, rfl, fun H2 k2 => ?_⟩
    rw [pp]
    refine ⟨true, true, rfl, rfl, false, rfl, ?_⟩
    refine ⟨.int p, rfl, .int p, rfl, p, p, rfl, rfl, .inl ⟨by omega, by omega⟩, p * p, rfl, fun H3 k3 => ?_⟩
    rw [ppp]
    refine ⟨false, false, rfl, rfl, false, rfl, ?_⟩
    have pot3 : Pot H3 a := (p1.kp k2).kp k3
    -- one, other
    refine ⟨.ref a, rfl, a, 2000, rfl, pot3, by decide, by decide, fun d1 H4 d10 d11 b4 p4 => ?_⟩
    refine ⟨d1, 1000, rfl, rfl, ?_⟩
    refine ⟨.ref a, rfl, a, 2000, rfl, p4, by decide, by decide, fun d2 H5 d20 d21 b5 p5 => ?_⟩
    refine ⟨d2, 1000, rfl, rfl, .int (d1 - 1000), .int (d2 - 1000), rfl, ?_⟩
    obtain ⟨one, eone⟩ : ∃ z, z = d1 - 1000 := ⟨_, rfl⟩
    obtain ⟨oth, eoth⟩ : ∃ z, z = d2 - 1000 := ⟨_, rfl⟩
    rw [← eone, ← eoth]
    -- near, far
    refine ⟨.int one, rfl, .int p, rfl, one, p, rfl, p3, by omega, fun H6 k6 => ?_⟩
    refine ⟨.int oth, rfl, .int p, rfl, oth, p, rfl, p3, by omega, fun H7 k7 => ?_⟩
    refine ⟨_, _, rfl, ?_⟩
    -- told
    refine ⟨.int one, rfl, .int p, rfl, one, p, rfl, pp, p3, fun H8 k8 => ?_⟩
    refine ⟨.int p, rfl, .int oth, rfl, oth, p, rfl, pp, p3, fun H9 k9 => ?_⟩
    refine ⟨.int one, rfl, .int oth, rfl, one, oth, rfl, rfl, .inl ⟨by omega, by omega⟩, .int p, rfl, one * oth, p, rfl, pp, p3, fun H10 k10 => ?_⟩
    refine ⟨.int one, rfl, .int p, rfl, .int oth, rfl, p, oth, rfl, rfl, .inl ⟨by omega, by omega⟩, one, _, rfl, rfl, .int p, rfl, one + p * oth, p, rfl, pp, p3, fun H11 k11 => ?_⟩
    refine ⟨szOk (show 4 ≤ 100000 by decide), fun l2 nl2 => ?_⟩
    have eone4 : (one + p * oth) % p = one % p := Int.add_mul_emod_self_left ..
    have lt1 := rest_lt one (show 0 < p by omega)
    have lt2 := rest_lt oth (show 0 < p by omega)
    have e3 : sym ((one * oth) % p).toNat p = lsym (one % p).toNat p * lsym (oth % p).toNat p := by
      rw [rest_mul one oth (by omega), sym_mul hpt lt1 lt2, sym_lsym p3, sym_lsym p3]
    have n1b := lsym_b (one % p).toNat p
    have n2b := lsym_b (oth % p).toNat p
    have e1 : sym (one % p).toNat p = lsym (one % p).toNat p := sym_lsym p3
    have e2 : sym (oth % p).toNat p = lsym (oth % p).toNat p := sym_lsym p3
    rw [eone4, e1, e2, e3]
    generalize en1 : lsym (one % p).toNat p = n1 at n1b ⊢
    generalize en2 : lsym (oth % p).toNat p = n2 at n2b ⊢
    have n3b := unit_mul n1b n2b
    have nsb : ∀ n ∈ [n1, n2, n1 * n2, n1], -1 ≤ n ∧ n ≤ 1 := by
      intro n hn
      simp only [List.mem_cons, List.not_mem_nil, or_false] at hn
      rcases hn with e | e | e | e <;> rw [e] <;> assumption
    have ok1 : okD 8 (.list ([n1, n2, n1 * n2, n1].map PyData.int)) = true := unit_ok nsb
    have pot11 : Pot H11 a := (((((p5.kp k6).kp k7).kp k8).kp k9).kp k10).kp k11
    have nl2a := pot11.ne nl2
    refine ⟨.ref l2, rfl, l2, .list ([n1, n2, n1 * n2, n1].map PyData.int), rfl, dpIntList (sqL upd_same), ok1, nodesL _ (by simp), ?_⟩
    refine ⟨.int n1, rfl, .int n2, rfl, .int n1, rfl, .int n2, rfl, n1, n2, rfl, rfl, .inl ⟨by omega, by omega⟩, .int n1, rfl, szOk (show 4 ≤ 100000 by decide), fun l3 nl3 => ?_⟩
    refine ⟨l3, .list ([n1, n2, n1 * n2, n1].map PyData.int), rfl, dpIntList (sqL upd_same), ok1, nodesL _ (by simp), ?_⟩
    refine ⟨rfl, false, by simp, ?_⟩
    have k13 : Kp H11 (upd (upd H11 l2 (.lst [.int n1, .int n2, .int (n1 * n2), .int n1])) l3 (.lst [.int n1, .int n2, .int (n1 * n2), .int n1])) := (Kp.new nl2).trans (Kp.new nl3)
    have potN := pot11.kp k13
    generalize upd (upd H11 l2 (.lst [.int n1, .int n2, .int (n1 * n2), .int n1])) l3 (.lst [.int n1, .int n2, .int (n1 * n2), .int n1]) = H13 at k13 potN ⊢
    -- if prime < 40
    refine ⟨fun σ3 H3 => (∃ x6 x7 x8 x9 x10, σ3 = [some (.ref a), some (.int p), some (.int one), some (.int oth), some (.int n1), some (.int n2), x6, x7, x8, x9, x10]) ∧ Pot H3 a, ?_, ?_⟩
    · refine ⟨.int p, rfl, p, 40, rfl, rfl, _, rfl, ite2 (fun c => ?_) (fun c => ⟨⟨_, _, _, _, _, rfl⟩, potN⟩)⟩
      have c1 : p < 40 := by have := of_decide_eq_true c; omega
      have sm := tab_sum p hpt c1
      refine ⟨.int p, rfl, p, rfl, by omega, by omega, fun D hD => ?_⟩
      refine lc_range (fun i H2 => H2 D = some (.lst ((List.range i).map fun j => V.int (sym j p))) ∧ Kp H13 H2) ⟨upd_same, Kp.new hD⟩ ?_ ?_
      · rintro i H2 hi ⟨e2, k2⟩
        refine ⟨rfl, ?_⟩
        refine ⟨.int (0 + i), rfl, .int p, rfl, 0 + i, p, rfl, pp, p3, fun H3' k3' => ?_⟩
        refine ⟨_, k3' _ _ e2, szLt (by rw [List.length_map, List.length_range]; omega), ?_, ?_⟩
        · rw [upd_same, List.range_succ, List.map_append]
          have e : ((0 + (i : Int)) % p).toNat = i := by
            rw [Int.zero_add, rest_nat]
            exact Nat.mod_eq_of_lt (by omega)
          exact congrArg (fun z => some (HO.lst (_ ++ [V.int (sym z p)]))) e
        · intro b u z
          rw [upd_ne (ne_of_none z hD)]
          exact k3' b u (k2 b u z)
      · rintro H2 ⟨e2, k2⟩
        have hn : (p : Int).toNat = p := by omega
        rw [hn] at e2
        have e2' : H2 D = some (.lst (((List.range p).map fun j => sym j p).map V.int)) := by rw [e2, List.map_map]; rfl
        refine ⟨.ref D, rfl, .int p, rfl, p, rfl, by omega, by omega, fun D2 hD2 => ?_⟩
        refine lc_range (fun i H3 => H3 D2 = some (.lst ((List.range i).map fun j => V.int (sym j p))) ∧ Kp H2 H3) ⟨upd_same, Kp.new hD2⟩ ?_ ?_
        · rintro i H3 hi ⟨e3, k3⟩
          refine ⟨rfl, ?_⟩
          refine ⟨.int (0 + i), rfl, .int p, rfl, 0 + i, p, rfl, p3, by omega, fun H4' k4' => ?_⟩
          refine ⟨_, k4' _ _ e3, szLt (by rw [List.length_map, List.length_range]; omega), ?_, ?_⟩
          · rw [upd_same, List.range_succ, List.map_append]
            have e : lsym ((0 + (i : Int)) % p).toNat p = sym i p := by
              rw [Int.zero_add, rest_nat, sym_lsym p3, Nat.mod_eq_of_lt (show i < p by omega)]
            exact congrArg (fun z => some (HO.lst (_ ++ [V.int z]))) e
          · intro b u z
            rw [upd_ne (ne_of_none z hD2)]
            exact k4' b u (k3 b u z)
        · rintro H3 ⟨e3, k3⟩
          rw [hn] at e3
          have e3' : H3 D2 = some (.lst (((List.range p).map fun j => sym j p).map V.int)) := by rw [e3, List.map_map]; rfl
          have okS : okD 8 (.list (((List.range p).map fun j => sym j p).map PyData.int)) = true := by
            refine unit_ok fun n hn => ?_
            obtain ⟨j, _, rfl⟩ := List.mem_map.mp hn
            rw [sym_lsym p3]
            exact lsym_b j p
          refine ⟨_, _, dpIntList (sqL (k3 _ _ e2')), dpIntList (sqL e3'), okD_shaped okS (by decide), okD_shaped okS (by decide), false, ?_, ?_⟩
          · rw [SeqAt.eqv_refl _ (okD_lay 8 _ okS)]; rfl
          · refine ⟨.ref D, rfl, D, _, rfl, sqL (k3 _ _ e2'), rfl, false, ?_, ?_⟩
            · rw [sm]; rfl
            exact ⟨⟨_, _, _, _, _, rfl⟩, (potN.kp k2).kp k3⟩
    · rintro σ3 H14 ⟨⟨x6, x7, x8, x9, x10, rfl⟩, pot14⟩
      -- wide = _law_pick(pot, [101, ..])
      refine ⟨.ref a, rfl, szOk (show 4 ≤ 100000 by decide), fun l4 nl4 => ?_⟩
      have hp15 := pot14.kp (Kp.new (o := .lst (wtab.map fun n : Nat => V.int n)) nl4)
      refine ⟨a, l4, wtab.map fun n : Nat => V.int n, rfl, hp15, pot14.ne nl4, sqL upd_same, by decide, by decide, fun x H15 hx b15 p15 => ?_⟩
      obtain ⟨v, hv, rfl⟩ := List.mem_map.mp hx
      obtain ⟨vp, v3, v9, vm⟩ := wtab_ok v hv
      -- root
      refine ⟨.ref a, rfl, .int v, rfl, v, 1, rfl, rfl, a, v - 1, rfl, p15, by omega, by omega, fun d3 H16 d30 d31 b16 p16 => ?_⟩
      obtain ⟨x, ex⟩ : ∃ x : Nat, 1 + d3 = (x : Int) := ⟨(1 + d3).toNat, by omega⟩
      refine ⟨1, d3, rfl, rfl, ?_⟩
      have x0 : x ≠ 0 := by omega
      have lx : x < v := by omega
      -- told
      have sx : some (some (V.int (1 + d3))) = some (some (V.int x)) := congrArg (fun z => some (some (V.int z))) ex
      have xx : (x : Int) * x ≤ 1499 * 1499 := by
        have := Nat.mul_le_mul (show x ≤ 1499 by omega) (show x ≤ 1499 by omega)
        exact_mod_cast this
      have xx0 : (0 : Int) ≤ (x : Int) * x := Int.mul_nonneg (by omega) (by omega)
      refine ⟨.int x, sx, .int x, sx, x, x, rfl, rfl, .inl ⟨by omega, by omega⟩, .int v, rfl, (x : Int) * x, v, rfl, vp, v3, fun H17 k17 => ?_⟩
      refine ⟨.int x, sx, .int x, sx, x, x, rfl, rfl, .inl ⟨by omega, by omega⟩, .int one, rfl, (x : Int) * x, one, rfl, rfl, .inl ⟨by omega, by omega⟩, .int v, rfl, (x : Int) * x * one, v, rfl, vp, v3, fun H18 k18 => ?_⟩
      refine ⟨.int v, rfl, .int oth, rfl, v, oth, rfl, rfl, .inl ⟨by omega, by omega⟩, .int v, rfl, (v : Int) * oth, v, rfl, vp, v3, fun H19 k19 => ?_⟩
      refine ⟨.int v, rfl, 0, v, rfl, vp, v3, fun H20 k20 => ?_⟩
      refine ⟨szOk (show 4 ≤ 100000 by decide), fun l5 nl5 => ?_⟩
      have f1 : sym ((x : Int) * x % v).toNat v = 1 := by
        have e : (x : Int) * x = ((x * x : Nat) : Int) := rfl
        rw [e, rest_nat]
        exact sym_sq hv x0 lx
      have f2 : sym ((x : Int) * x * one % v).toNat v = lsym (one % v).toNat v := by
        have e : (x : Int) * x = ((x * x : Nat) : Int) := rfl
        rw [rest_mul _ _ (by omega), e, rest_nat, Nat.mod_mul_mod, sym_sqmul hv x0 lx (rest_lt one (by omega))]
        exact sym_lsym v3
      have f3 : sym ((v : Int) * oth % v).toNat v = 0 := by rw [Int.mul_emod_right]; exact sym_zero v
      have f4 : sym ((0 : Int) % v).toNat v = 0 := by rw [Int.zero_emod]; exact sym_zero v
      rw [f1, f2, f3, f4]
      have mb := lsym_b (one % v).toNat v
      generalize em : lsym (one % v).toNat v = m at mb ⊢
      have ok2 : okD 8 (.list ([1, m, 0, 0].map PyData.int)) = true := unit_ok fun n hn => by
        simp only [List.mem_cons, List.not_mem_nil, or_false] at hn
        omega
      refine ⟨.ref l5, rfl, l5, .list ([1, m, 0, 0].map PyData.int), rfl, dpIntList (sqL upd_same), ok2, nodesL _ (by simp), ?_⟩
      refine ⟨.int one, rfl, .int v, rfl, one, v, rfl, v3, by omega, fun H21 k21 => ?_⟩
      refine ⟨szOk (show 4 ≤ 100000 by decide), fun l6 nl6 => ?_⟩
      rw [em]
      refine ⟨l6, .list ([1, m, 0, 0].map PyData.int), rfl, dpIntList (sqL upd_same), ok2, nodesL _ (by simp), ?_⟩
      refine ⟨rfl, false, by simp, ?_⟩
      -- symbol(-1, wide)
      refine ⟨1, rfl, .int v, rfl, -1, v, rfl, vp, v3, fun H22 k22 => ?_⟩
      have f5 : ((-1 : Int) % v).toNat = v - 1 := by
        have e : (-1 : Int) = ((v : Int) - 1) + v * (-1) := by omega
        rw [e, Int.add_mul_emod_self_left, Int.emod_eq_of_lt (by omega) (by omega)]
        omega
      rw [f5, vm]
      refine ⟨.int v, rfl, v, 4, rfl, rfl, (show (0 : Int) < 4 by decide), rfl, _, rfl, ite2 (fun c => ?_) (fun c => ?_)⟩
      · have c1 : v % 4 = 1 := by have := V.int.inj (of_decide_eq_true c); omega
        rw [if_pos c1]
        exact ⟨rfl, q _⟩
      · have c1 : ¬ v % 4 = 1 := fun z => c (decide_eq_true (congrArg V.int (by omega)))
        rw [if_neg c1]
        exact ⟨1, rfl, rfl, q _⟩

end
end K12

namespace K12
open PySem PySem.Spec PyProof.Rows L2 EP
section
variable {P : Program} {w : World} {K : PySem.W.Frag} {mg : Str → Option Value} {base : Heap}

def spLaw (K : PySem.W.Frag) : Sp := fun vs H Q _ => ∃ (a : Addr) (ns : List Int), vs = [.ref a] ∧ SqL K H a (ns.map V.int) ∧ ns.length ≤ 63 ∧ ∀ H', Q (.bl true) H'
theorem ok_law (T : Tx K mg) : GOk P w K mg base 6 T.f_law T.fd_law ["script"] (spLaw K) := by
  have G_law_right := ok_law_right (P := P) (w := w) (base := base) T
  have G_law_pot := ok_law_pot (P := P) (w := w) (base := base) T
  refine gok T.F_law sc_law (fun vs H Q E h => ?_) (fun cdv A outer s H vs Q hg hr h => ?_)
  · obtain ⟨a, ns, rfl, _⟩ := h
    rfl
  · obtain ⟨a, ns, rfl, hS, hl, q⟩ := h
    refine ⟨_, (pss_one (ps_ret (pe_gcall (by exact hg) G_law_right (hr.mono (by decide)) (by rfl) T.m_law_right T.F_law_right.kp T.b_law_right (pa_cons (pe_call G_law_pot (hr.mono (by decide)) (by rfl) T.m_law_pot T.F_law_pot.kp T.b_law_pot .nil pass0 (pa_cons (pv 0) (pa_cons pe_int pa_nil))) pa_nil)))), ?_⟩
    exact ⟨.ref a, rfl, a, ns, rfl, hS, hl, fun p H1 np k1 p1 => ⟨p, rfl, p1, q⟩⟩
end
theorem all_mk {l : PySem.W.OpenLaw} {w : World} {K : PySem.W.Frag} {h : Heap} {mg : Str → Option Value} {fa f1 f2 f3 f4 f5 f6 f7 f8 f9 f10 f11 f12 : Addr} (X : K.In h) (G : h.Ns mainGlobals mg) (hfa : mg "law" = some (.ref fa))
    {od1 an1 : Option Addr} {sl1 : Array (Option Value)} {oc1 kV1 dc1 pm1 cd1 ct1 : Value}
    {od2 an2 : Option Addr} {sl2 : Array (Option Value)} {oc2 kV2 dc2 pm2 cd2 ct2 : Value}
    {od3 an3 : Option Addr} {sl3 : Array (Option Value)} {oc3 kV3 dc3 pm3 cd3 ct3 : Value}
    {od4 an4 : Option Addr} {sl4 : Array (Option Value)} {oc4 kV4 dc4 pm4 cd4 ct4 : Value}
    {od5 an5 : Option Addr} {sl5 : Array (Option Value)} {oc5 kV5 dc5 pm5 cd5 ct5 : Value}
    {od6 an6 : Option Addr} {sl6 : Array (Option Value)} {oc6 kV6 dc6 pm6 cd6 ct6 : Value}
    {od7 an7 : Option Addr} {sl7 : Array (Option Value)} {oc7 kV7 dc7 pm7 cd7 ct7 : Value}
    {od8 an8 : Option Addr} {sl8 : Array (Option Value)} {oc8 kV8 dc8 pm8 cd8 ct8 : Value}
    {od9 an9 : Option Addr} {sl9 : Array (Option Value)} {oc9 kV9 dc9 pm9 cd9 ct9 : Value}
    {od10 an10 : Option Addr} {sl10 : Array (Option Value)} {oc10 kV10 dc10 pm10 cd10 ct10 : Value}
    {od11 an11 : Option Addr} {sl11 : Array (Option Value)} {oc11 kV11 dc11 pm11 cd11 ct11 : Value}
    {od12 an12 : Option Addr} {sl12 : Array (Option Value)} {oc12 kV12 dc12 pm12 cd12 ct12 : Value}
    (a1 : PySem.W.nsIn K mainGlobals "is_integer" = some (some (.ref f1))) (l1 : K.lookup f1 = some ⟨oc1, od1, .func (PySem.W.fnOf "is_integer" "is_integer" (defArgs s_is_integer) (defBody s_is_integer) (defScope s_is_integer) .none kV1 dc1 pm1 an1 cd1 ct1), sl1⟩) (c1 : PySem.W.codeIn K cd1 "is_integer" = true) (k1 : PySem.W.keepIn K (.ref f1) = true)
    (a2 : PySem.W.nsIn K mainGlobals "is_within" = some (some (.ref f2))) (l2 : K.lookup f2 = some ⟨oc2, od2, .func (PySem.W.fnOf "is_within" "is_within" (defArgs s_is_within) (defBody s_is_within) (defScope s_is_within) .none kV2 dc2 pm2 an2 cd2 ct2), sl2⟩) (c2 : PySem.W.codeIn K cd2 "is_within" = true) (k2 : PySem.W.keepIn K (.ref f2) = true)
    (a3 : PySem.W.nsIn K mainGlobals "check_integer" = some (some (.ref f3))) (l3 : K.lookup f3 = some ⟨oc3, od3, .func (PySem.W.fnOf "check_integer" "check_integer" (defArgs s_check_integer) (defBody s_check_integer) (defScope s_check_integer) .none kV3 dc3 pm3 an3 cd3 ct3), sl3⟩) (c3 : PySem.W.codeIn K cd3 "check_integer" = true) (k3 : PySem.W.keepIn K (.ref f3) = true)
    (a4 : PySem.W.nsIn K mainGlobals "factored" = some (some (.ref f4))) (l4 : K.lookup f4 = some ⟨oc4, od4, .func (PySem.W.fnOf "factored" "factored" (defArgs s_factored) (defBody s_factored) (defScope s_factored) .none kV4 dc4 pm4 an4 cd4 ct4), sl4⟩) (c4 : PySem.W.codeIn K cd4 "factored" = true) (k4 : PySem.W.keepIn K (.ref f4) = true)
    (a5 : PySem.W.nsIn K mainGlobals "is_prime" = some (some (.ref f5))) (l5 : K.lookup f5 = some ⟨oc5, od5, .func (PySem.W.fnOf "is_prime" "is_prime" (defArgs s_is_prime) (defBody s_is_prime) (defScope s_is_prime) .none kV5 dc5 pm5 an5 cd5 ct5), sl5⟩) (c5 : PySem.W.codeIn K cd5 "is_prime" = true) (k5 : PySem.W.keepIn K (.ref f5) = true)
    (a6 : PySem.W.nsIn K mainGlobals "symbol" = some (some (.ref f6))) (l6 : K.lookup f6 = some ⟨oc6, od6, .func (PySem.W.fnOf "symbol" "symbol" (defArgs s_symbol) (defBody s_symbol) (defScope s_symbol) .none kV6 dc6 pm6 an6 cd6 ct6), sl6⟩) (c6 : PySem.W.codeIn K cd6 "symbol" = true) (k6 : PySem.W.keepIn K (.ref f6) = true)
    (a7 : PySem.W.nsIn K mainGlobals "_law_pot" = some (some (.ref f7))) (l7 : K.lookup f7 = some ⟨oc7, od7, .func (PySem.W.fnOf "_law_pot" "_law_pot" (defArgs s_law_pot) (defBody s_law_pot) (defScope s_law_pot) .none kV7 dc7 pm7 an7 cd7 ct7), sl7⟩) (c7 : PySem.W.codeIn K cd7 "_law_pot" = true) (k7 : PySem.W.keepIn K (.ref f7) = true)
    (a8 : PySem.W.nsIn K mainGlobals "_law_draw" = some (some (.ref f8))) (l8 : K.lookup f8 = some ⟨oc8, od8, .func (PySem.W.fnOf "_law_draw" "_law_draw" (defArgs s_law_draw) (defBody s_law_draw) (defScope s_law_draw) .none kV8 dc8 pm8 an8 cd8 ct8), sl8⟩) (c8 : PySem.W.codeIn K cd8 "_law_draw" = true) (k8 : PySem.W.keepIn K (.ref f8) = true)
    (a9 : PySem.W.nsIn K mainGlobals "_law_pick" = some (some (.ref f9))) (l9 : K.lookup f9 = some ⟨oc9, od9, .func (PySem.W.fnOf "_law_pick" "_law_pick" (defArgs s_law_pick) (defBody s_law_pick) (defScope s_law_pick) .none kV9 dc9 pm9 an9 cd9 ct9), sl9⟩) (c9 : PySem.W.codeIn K cd9 "_law_pick" = true) (k9 : PySem.W.keepIn K (.ref f9) = true)
    (a10 : PySem.W.nsIn K mainGlobals "_law_symbol" = some (some (.ref f10))) (l10 : K.lookup f10 = some ⟨oc10, od10, .func (PySem.W.fnOf "_law_symbol" "_law_symbol" (defArgs s_law_symbol) (defBody s_law_symbol) (defScope s_law_symbol) .none kV10 dc10 pm10 an10 cd10 ct10), sl10⟩) (c10 : PySem.W.codeIn K cd10 "_law_symbol" = true) (k10 : PySem.W.keepIn K (.ref f10) = true)
    (a11 : PySem.W.nsIn K mainGlobals "_law_right" = some (some (.ref f11))) (l11 : K.lookup f11 = some ⟨oc11, od11, .func (PySem.W.fnOf "_law_right" "_law_right" (defArgs s_law_right) (defBody s_law_right) (defScope s_law_right) .none kV11 dc11 pm11 an11 cd11 ct11), sl11⟩) (c11 : PySem.W.codeIn K cd11 "_law_right" = true) (k11 : PySem.W.keepIn K (.ref f11) = true)
    (a12 : PySem.W.nsIn K mainGlobals "law" = some (some (.ref f12))) (l12 : K.lookup f12 = some ⟨oc12, od12, .func (PySem.W.fnOf "law" "law" (defArgs s_law) (defBody s_law) (defScope s_law) .none kV12 dc12 pm12 an12 cd12 ct12), sl12⟩) (c12 : PySem.W.codeIn K cd12 "law" = true) (k12 : PySem.W.keepIn K (.ref f12) = true)
    (z_abs : PySem.W.nsIn K mainGlobals "abs" = some none)
    (z_any : PySem.W.nsIn K mainGlobals "any" = some none)
    (z_bool : PySem.W.nsIn K mainGlobals "bool" = some none)
    (z_divmod : PySem.W.nsIn K mainGlobals "divmod" = some none)
    (z_int : PySem.W.nsIn K mainGlobals "int" = some none)
    (z_isinstance : PySem.W.nsIn K mainGlobals "isinstance" = some none)
    (z_len : PySem.W.nsIn K mainGlobals "len" = some none)
    (z_max : PySem.W.nsIn K mainGlobals "max" = some none)
    (z_range : PySem.W.nsIn K mainGlobals "range" = some none)
    (z_repr : PySem.W.nsIn K mainGlobals "repr" = some none)
    (z_sum : PySem.W.nsIn K mainGlobals "sum" = some none)
    : ∃ fd : FuncData, (∀ (s : Shared) (v : Value), BindsTo s fd ⟨[v], []⟩ [("script", v)]) ∧ ∀ base : Heap, K.In base → base.Ns mainGlobals mg → GOk l.prog w K mg base 6 fa fd ["script"] (spLaw K) := by
  have e := hfa.symm.trans (PySem.W.mg_of X G a12)
  cases e
  have F1 := fun_mk (st := s_is_integer) l1 c1 k1
  have b1 := F1.binds (ps := ["value"]) fun _ _ _ _ _ _ us hl => match us, hl with | [_], _ => rfl
  have F2 := fun_mk (st := s_is_within) l2 c2 k2
  have b2 := F2.binds (ps := ["value", "low", "high"]) fun _ _ _ _ _ _ us hl => match us, hl with | [_, _, _], _ => rfl
  have F3 := fun_mk (st := s_check_integer) l3 c3 k3
  have b3 := F3.binds (ps := ["number"]) fun _ _ _ _ _ _ us hl => match us, hl with | [_], _ => rfl
  have F4 := fun_mk (st := s_factored) l4 c4 k4
  have b4 := F4.binds (ps := ["number"]) fun _ _ _ _ _ _ us hl => match us, hl with | [_], _ => rfl
  have F5 := fun_mk (st := s_is_prime) l5 c5 k5
  have b5 := F5.binds (ps := ["value"]) fun _ _ _ _ _ _ us hl => match us, hl with | [_], _ => rfl
  have F6 := fun_mk (st := s_symbol) l6 c6 k6
  have b6 := F6.binds (ps := ["first", "prime"]) fun _ _ _ _ _ _ us hl => match us, hl with | [_, _], _ => rfl
  have F7 := fun_mk (st := s_law_pot) l7 c7 k7
  have b7 := F7.binds (ps := ["script", "k"]) fun _ _ _ _ _ _ us hl => match us, hl with | [_, _], _ => rfl
  have F8 := fun_mk (st := s_law_draw) l8 c8 k8
  have b8 := F8.binds (ps := ["pot", "many"]) fun _ _ _ _ _ _ us hl => match us, hl with | [_, _], _ => rfl
  have F9 := fun_mk (st := s_law_pick) l9 c9 k9
  have b9 := F9.binds (ps := ["pot", "some"]) fun _ _ _ _ _ _ us hl => match us, hl with | [_, _], _ => rfl
  have F10 := fun_mk (st := s_law_symbol) l10 c10 k10
  have b10 := F10.binds (ps := ["number", "prime"]) fun _ _ _ _ _ _ us hl => match us, hl with | [_, _], _ => rfl
  have F11 := fun_mk (st := s_law_right) l11 c11 k11
  have b11 := F11.binds (ps := ["pot"]) fun _ _ _ _ _ _ us hl => match us, hl with | [_], _ => rfl
  have F12 := fun_mk (st := s_law) l12 c12 k12
  have b12 := F12.binds (ps := ["script"]) fun _ _ _ _ _ _ us hl => match us, hl with | [_], _ => rfl
  have kb_kb_symbol_0 : KBinds K (PySem.W.fnOf "symbol" "symbol" (defArgs s_symbol) (defBody s_symbol) (defScope s_symbol) .none kV6 dc6 pm6 an6 cd6 ct6) ["first", "prime"] ["prime", "first"] (fun us ws => match us, ws with | [], [ws0, ws1] => [ws1, ws0] | _, _ => []) (fun us ws => match us, ws with | [], [ws0, ws1] => [ws1, ws0] | _, _ => []) := by
    refine ⟨fun s us ws _ hl => ?_, fun {vs us zs ws} r1 r2 => ?_⟩
    · match us, ws, hl with
      | [], [_, _], _ => exact .of_eq rfl
    · rcases r1 with _ | ⟨q0, r1⟩ <;> (try rcases r1 with _ | ⟨q1, r1⟩) <;> (try rcases r1 with _ | ⟨q2, r1⟩) <;> (try rcases r1 with _ | ⟨q3, r1⟩) <;> rcases r2 with _ | ⟨p0, r2⟩ <;> (try rcases r2 with _ | ⟨p1, r2⟩) <;> (try rcases r2 with _ | ⟨p2, r2⟩) <;> (try rcases r2 with _ | ⟨p3, r2⟩) <;> first | exact .nil | (repeat (first | exact .nil | refine .cons (by assumption) ?_))
  let T : Tx K mg := { f_is_integer := f1, fd_is_integer := _, F_is_integer := F1, m_is_integer := PySem.W.mg_of X G a1, b_is_integer := b1, f_is_within := f2, fd_is_within := _, F_is_within := F2, m_is_within := PySem.W.mg_of X G a2, b_is_within := b2, f_check_integer := f3, fd_check_integer := _, F_check_integer := F3, m_check_integer := PySem.W.mg_of X G a3, b_check_integer := b3, f_factored := f4, fd_factored := _, F_factored := F4, m_factored := PySem.W.mg_of X G a4, b_factored := b4, f_is_prime := f5, fd_is_prime := _, F_is_prime := F5, m_is_prime := PySem.W.mg_of X G a5, b_is_prime := b5, f_symbol := f6, fd_symbol := _, F_symbol := F6, m_symbol := PySem.W.mg_of X G a6, b_symbol := b6, f_law_pot := f7, fd_law_pot := _, F_law_pot := F7, m_law_pot := PySem.W.mg_of X G a7, b_law_pot := b7, f_law_draw := f8, fd_law_draw := _, F_law_draw := F8, m_law_draw := PySem.W.mg_of X G a8, b_law_draw := b8, f_law_pick := f9, fd_law_pick := _, F_law_pick := F9, m_law_pick := PySem.W.mg_of X G a9, b_law_pick := b9, f_law_symbol := f10, fd_law_symbol := _, F_law_symbol := F10, m_law_symbol := PySem.W.mg_of X G a10, b_law_symbol := b10, f_law_right := f11, fd_law_right := _, F_law_right := F11, m_law_right := PySem.W.mg_of X G a11, b_law_right := b11, f_law := fa, fd_law := _, F_law := F12, m_law := PySem.W.mg_of X G a12, b_law := b12, kb_symbol_0 := kb_kb_symbol_0, z_abs := PySem.W.mg_none_of X G z_abs, z_any := PySem.W.mg_none_of X G z_any, z_bool := PySem.W.mg_none_of X G z_bool, z_divmod := PySem.W.mg_none_of X G z_divmod, z_int := PySem.W.mg_none_of X G z_int, z_isinstance := PySem.W.mg_none_of X G z_isinstance, z_len := PySem.W.mg_none_of X G z_len, z_max := PySem.W.mg_none_of X G z_max, z_range := PySem.W.mg_none_of X G z_range, z_repr := PySem.W.mg_none_of X G z_repr, z_sum := PySem.W.mg_none_of X G z_sum }
  exact ⟨T.fd_law, fun s v => .of_eq rfl, fun base _ _ => ok_law T⟩
end K12
open PySem PySem.W PyProof.Rows
set_option maxHeartbeats 0 in
theorem PySem.Challenge.cw_etaparts_k12_whole_symbols_by_squares_holds : PySem.Challenge.rw_etaparts_k12_whole_symbols_by_squares.Holds := by
  w_on; o_law; k_head; (case hw => w_witness2)
  k_fill
  refine EP.walk_run (l := PySem.Challenge.rw_etaparts_k12_whole_symbols_by_squares) (most := 63) (n := 6) (x := "script") (pr := fun w => K12.spLaw _) rfl (by decide) rfl ⟨rfl, by decide, by decide⟩ (fun w h Y => PySem.W.kIn_of Y) ?F (fun _ _ a ns hl _ _ hS => ⟨a, ns, rfl, hS, hl, fun _ => rfl⟩)
  case F =>
    intro w mg fa h KX G hmg
    refine' K12.all_mk KX G hmg ?a1 ?l1 ?c1 ?k1 ?a2 ?l2 ?c2 ?k2 ?a3 ?l3 ?c3 ?k3 ?a4 ?l4 ?c4 ?k4 ?a5 ?l5 ?c5 ?k5 ?a6 ?l6 ?c6 ?k6 ?a7 ?l7 ?c7 ?k7 ?a8 ?l8 ?c8 ?k8 ?a9 ?l9 ?c9 ?k9 ?a10 ?l10 ?c10 ?k10 ?a11 ?l11 ?c11 ?k11 ?a12 ?l12 ?c12 ?k12 ?z_abs ?z_any ?z_bool ?z_divmod ?z_int ?z_isinstance ?z_len ?z_max ?z_range ?z_repr ?z_sum
    (case a1 => k_is); (case l1 => k_is); (case c1 => k_is); (case k1 => k_is); (case a2 => k_is); (case l2 => k_is); (case c2 => k_is); (case k2 => k_is); (case a3 => k_is); (case l3 => k_is); (case c3 => k_is); (case k3 => k_is); (case a4 => k_is); (case l4 => k_is); (case c4 => k_is); (case k4 => k_is); (case a5 => k_is); (case l5 => k_is); (case c5 => k_is); (case k5 => k_is); (case a6 => k_is); (case l6 => k_is); (case c6 => k_is); (case k6 => k_is); (case a7 => k_is); (case l7 => k_is); (case c7 => k_is); (case k7 => k_is); (case a8 => k_is); (case l8 => k_is); (case c8 => k_is); (case k8 => k_is); (case a9 => k_is); (case l9 => k_is); (case c9 => k_is); (case k9 => k_is); (case a10 => k_is); (case l10 => k_is); (case c10 => k_is); (case k10 => k_is); (case a11 => k_is); (case l11 => k_is); (case c11 => k_is); (case k11 => k_is); (case a12 => k_is); (case l12 => k_is); (case c12 => k_is); (case k12 => k_is); (case z_abs => k_is); (case z_any => k_is); (case z_bool => k_is); (case z_divmod => k_is); (case z_int => k_is); (case z_isinstance => k_is); (case z_len => k_is); (case z_max => k_is); (case z_range => k_is); (case z_repr => k_is); (case z_sum => k_is)

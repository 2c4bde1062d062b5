import PyProof.Rows.All
import Wide.All
import OpenK.AllK
import Wide.FinOn
import HandS.ForMost
import HandS.EndBits
import HandS.Wide
import HandS.WideMore
import HandS.WideBits
import HandS.Style
import HandS.Flow
import HandS.Gcd
import HandS.FStrTup
import HandS.Zip
import HandS.Conv
import HandS.Deep
import HandS.IsInst
import HandS.Codes
import HandS.TupMul
import HandS.TupAny
import HandS.SortInts
import HandS.Dict
import HandS.Iter
import HandS.More
import HandS.SetFor
import HandS.ListItems
import Flt.RightSqrt
import PySem.Challenge.RW_etaparts_k81_whole_numbers_carried_by_pr
set_option Elab.async false
set_option linter.all false
set_option maxRecDepth 100000
set_option maxHeartbeats 4000000
namespace EP
open PySem PySem.Spec PyProof.Rows L2
/-! ### a def's promise where no text of data is being written: only there repr of data is known -/
section
variable {P : Program} {w : World} {K : PySem.W.Frag} {mg : Str → Option Value} {base : Heap}
structure GOk (P : Program) (w : World) (K : PySem.W.Frag) (mg : Str → Option Value) (base : Heap) (n : Nat)
    (fn : Addr) (rec : FuncData) (pars : List Str) (pr : Sp) : Prop where
  arity : ∀ vals hp want ex, pr vals hp want ex → vals.length = pars.length
  go : ∀ (ar : Around) (stk : List Env) (st : Shared) (hp : Hp) (raw : List Value) (vals : List V) (want : VK),
    ar.guards = some [] → Room n ar → Env0 P w K mg base ar stk st hp →
    BindsTo st rec ⟨raw, []⟩ (pars.zip raw) → Vals vals raw → pr vals hp want E0 →
    codeAny (model P w) ar (.call (.ref fn) ⟨raw, []⟩) (CR CX0 stk P w hp st want E0) st

theorem gok {nm qual : Str} {txt : Stmt} {fn : Addr} {rec : FuncData} {N pars : List Str} {n : Nat} {pr : Sp}
    (F : Fun K nm qual txt fn rec) (S : FnScope N pars (defScope txt))
    (arity : ∀ vals hp want ex, pr vals hp want ex → vals.length = pars.length)
    (body : ∀ (cdv : Value) (ar : Around) (stk : List Env) (st : Shared) (hp : Hp) (vals : List V) (want : VK),
      ar.guards = some [] →
      Room n (ar.deeper (envOfC qual (defScope txt) st.heap.objs.size fn cdv)) → pr vals hp want E0 →
      ∃ t, PSs (cxOf CX0 P w K mg base N qual (defScope txt) fn cdv ar stk st hp E0).nox (defBody txt) t ∧
        t { nx := fun _ h2 => want .non h2, rt := want } (start N vals) hp) :
    GOk P w K mg base (n + 1) fn rec pars pr := by
  obtain ⟨cl, od, kv, dc, pm, an, cdv, ct, sl, rfl, lk, hc⟩ := F.ex
  refine ⟨arity, ?_⟩
  intro ar stk st hp raw vals want hg room env bnd rel hpr
  have nArgs := arity vals hp want E0 hpr
  have inK : K.In st.heap := env.mod.kin.keeps (fun b o q => (env.bs b o q).1)
  have noLim : st.heap.NoLimit := env.mod.nolimit.keeps (fun b o q => (env.bs b o q).1)
  refine codeAny_call_function (Room.depth room) (inK fn _ lk) rfl S.co S.gen rfl (PySem.W.codeRec_of inK hc) ?_
  refine bnd _ _ _ _ ?_
  refine wpAny_newFunctionEnv_cells S.kind ?_ ?_
  · rintro ⟨x, u⟩ hx
    cases S.par x (List.of_mem_zip hx).1 with
    | inl q => exact Or.inl q
    | inr q => exact Or.inr ⟨q, PySem.W.cellsFrom_some _ _ _ (Or.inl q)⟩
  · intro ev hev st1 inCall
    subst hev
    refine ⟨noLim.keeps inCall.toInCall.keep, codeAny_func ?_⟩
    obtain ⟨t, walk, read⟩ := body cdv ar stk st hp vals want hg (room.deeper _) hpr
    have I0 := inv_start (CX := CX0) (E := E0) S room.hd env nArgs rel inCall
    have fin : ∀ {σ2 : L2.St} {h2 : Hp} {v : V} {u : Value} {s2 : Shared},
        Inv (cxOf CX0 P w K mg base N qual (defScope txt) fn cdv ar stk st hp E0) [] σ2 h2 s2 → RelV v u → want v h2 →
        CE stk P w hp st want u s2 := by
      intro σ2 h2 v u s2 J rv q
      exact ⟨v, h2, J.os, J.bare, J.base, J.hok, rv, q⟩
    refine wpAny_mono (walk.nox.run [] st1 _ hp _ I0 read) ?_ (fun _ _ z => z)
    intro fl s2 end_
    cases fl with
    | ret u => obtain ⟨v, σ2, h2, J, rv, q⟩ := end_; exact fin J rv q
    | next => obtain ⟨σ2, h2, J, q⟩ := end_; exact fin (v := V.non) (u := Value.none) J rfl q
    | brk => obtain ⟨_, _, _, z⟩ := end_; exact z.elim
    | cont => obtain ⟨_, _, _, z⟩ := end_; exact z.elim
end
section
variable {X : Cx} {n : Nat} {fn : Addr} {rec : FuncData} {pars : List Str} {pr : Sp} {x : Str} {p pos : Pos} {e : Expr} {es : List Expr} {t : TA}
/-- a call of such a def from a body of which the same is known -/
theorem pe_gcall (hg : X.A.guards = some []) (F : GOk X.prog X.w X.K X.mg X.base n fn rec pars pr) (room : Room n X.A)
    (hgl : Gl X x) (hm : X.mg x = some (.ref fn)) (hk : PySem.W.keepIn X.K (.ref fn) = true) (bnd : Binds X.K rec pars [])
    (args : PA X (e :: es) t) (hdb : (x == ("__debug__" : Str)) = false := by decide)
    (he : starEach (e :: es) X.env = (false, eval e X.env) :: starEach es X.env := by rfl)
    (hpl : (backTo pos (starEach es X.env)).any (·.1) = false := by rfl) :
    PE X (.Call (.Name x p) (e :: es) [] pos) (tCall pr [] E0 t) := by
  constructor
  intro pins st σ hp want I h
  refine wpAny_Call_Name_kw (ld_glob I hgl hm ?_ hdb)
  refine PySem.W.callWith_K (h₀ := X.base) I.ok.mod.kin hk ?_ he hpl
  refine thn (args.run pos pins st σ hp _ I h) ?_
  rintro us s1 ⟨vs, h1, I1, rel, q⟩
  refine ⟨I1.kIn, ?_⟩
  rw [List.append_nil] at q
  have nArgs : us.length = pars.length := by rw [← rel.length]; exact F.arity _ _ _ _ q
  have b1 := bnd s1 us I1.kIn (by rw [List.append_nil]; exact nArgs)
  rw [List.append_nil] at b1
  refine wpAny_call (codeAny_mono (F.go X.A X.stack s1 h1 us vs want hg room I1.env0 b1 rel q) ?_)
  intro r s2 hr
  cases r with
  | error ex => exact hr.elim
  | ok fl =>
    cases fl with
    | ret u => exact I1.after hr
    | next => exact hr.elim
    | brk => exact hr.elim
    | cont => exact hr.elim
/-- f(a=.., b=..): keywords alone -/
theorem pe_kcall {CX : CXT} {ks : List Str} {g : List Value → List Value → List Value} {gV : List V → List V → List V} {E : XK} {kws : List Keyword} {tk : TA}
    (F : FnOk X.prog X.w X.K X.mg X.base CX n fn rec pars pr) (room : Room n X.A) (hgl : Gl X x) (hm : X.mg x = some (.ref fn))
    (hk : PySem.W.keepIn X.K (.ref fn) = true) (hb : KBinds X.K rec pars ks g gV) (hx : Passes CX X E) (hkw : PK X kws tk)
    (hall : (backToKw pos (keywordEach kws X.env)).all (·.1.isSome) = true := by rfl)
    (hks : (backToKw pos (keywordEach kws X.env)).filterMap (·.1) = ks := by rfl)
    (hdb : (x == ("__debug__" : Str)) = false := by decide)
    (hpl : ((backTo pos (starEach [] X.env)).any (·.1) || (backToKw pos (keywordEach kws X.env)).any (·.1.isNone)) = false := by rfl) :
    PE X (.Call (.Name x p) [] kws pos) (tCallK pr gV E tNil tk) := by
  constructor
  intro pins st σ hp want I h
  refine wpAny_Call_Name_kw (ld_glob I hgl hm ?_ hdb)
  refine PySem.W.callWith_KW0 (h₀ := X.base) I.ok.mod.kin hk hall ?_ hpl
  refine thn (hkw.run pos pins st σ hp _ I h) ?_
  rintro ws s2 ⟨zs, h2, I2, rz, q2⟩
  refine ⟨I2.kIn, ?_⟩
  rw [hks]
  exact run_fnk F room hb hx I2 .nil rz q2
/-- repr of data -/
theorem call_reprD (hg : X.A.guards = some []) (hu : X.A.units + 66 < cLine) :
    CallR X (.builtin "repr") (fun xs hp want => ∃ a d, xs = [.ref a] ∧ Dp X.K hp (.ref a) d ∧ d.showable = true ∧ d.hasDict = false ∧
      d.depth ≤ 64 ∧ d.shown.length ≤ sizeLine ∧ want (.str d.shown) hp) := by
  intro pins st σ hp xs us want I r h
  obtain ⟨a, d, rfl, hd, h1, h2, h3, h4, q⟩ := h
  obtain ⟨u, rfl, rv⟩ := vals1 r
  obtain rfl : u = .ref a := rv
  obtain ⟨as, rd⟩ := Dp.reads I d _ _ hd rfl
  refine repr_of_reads' rd h1 (fun z => ?_) hg (by omega) (fun _ _ z => z) (fun h2 u tk hk => ?_) h4
  · rw [h2] at z; cases z
  · exact ⟨.str _, hp, I.kept hk, ⟨_, rfl⟩, q⟩
end
/-! ### the law's end -/
theorem law_run {P : Program} {w : World} {K : PySem.W.Frag} {mg mb : Str → Option Value} {n : Nat} {fn at_ : Addr} {rec : FuncData} {x : Str} {pr : Sp} {st : Shared} {raw : List Value} {ns : List Int}
    (inK : K.In st.heap) (glob : st.heap.Ns mainGlobals mg) (blt : st.heap.Ns builtinsNs mb) (bltIs : ∀ y : Str, y ≠ "__name__" → mb y = bootBuiltins y)
    (noLim : st.heap.NoLimit) (gens : st.gens = #[]) (obj : st.heap.get? at_ = some { cls := .type "list", data := .seq raw.toArray })
    (nums : IntsAre raw ns) (few : ns.length ≤ sizeLine) (room : Room n callerA)
    (F : ∀ base : Heap, K.In base → base.Ns mainGlobals mg → GOk P w K mg base n fn rec [x] pr)
    (bnd : ∀ (s : Shared) (u : Value), BindsTo s rec ⟨[u], []⟩ [(x, u)])
    (told : ∀ hp : Hp, Only hp → SqL K hp at_ (ns.map V.int) → pr [.ref at_] hp (fun v _ => v = .bl true) E0) :
    codeAny (model P w) callerA (.call (.ref fn) ⟨[.ref at_], []⟩)
      (fun r s2 => r = .ok (.ret (.bool true)) ∧ PySem.OldK st.heap s2.heap ∧ s2.os = st.os ∧ AllBare s2.gens) st := by
  have rel := vals_ints nums
  have nRaw := nums.length
  suffices main : ∀ hp : Hp, Only hp → SqL K hp at_ (ns.map V.int) → HOk P w hp st.heap → (∀ b, hp b ≠ none → b = at_) →
      (hp at_ ≠ none → K.lookup at_ = none) →
      codeAny (model P w) callerA (.call (.ref fn) ⟨[.ref at_], []⟩)
        (fun r s2 => r = .ok (.ret (.bool true)) ∧ PySem.OldK st.heap s2.heap ∧ s2.os = st.os ∧ AllBare s2.gens) st by
    cases hk : K.lookup at_ with
    | some o =>
      have same := inK at_ o hk
      rw [obj] at same
      cases same
      refine main (fun _ => none) (fun _ => Or.inl rfl) (Or.inr ⟨_, raw.toArray, _, hk, rfl, rfl, rfl, ?_, ?_⟩) ?_ ?_ ?_
      · rw [List.size_toArray, nRaw]; exact few
      · simpa using rel
      · intro b u z
        have z2 : (none : Option HO) = some u := z
        cases z2
      · intro b z; exact absurd rfl z
      · intro z; exact absurd rfl z
    | none =>
      refine main (fun b => if b = at_ then some (.frz { cls := .type "list", data := .seq raw.toArray } (.lst (ns.map V.int))) else none) ?_ (Or.inl (Or.inr ⟨_, if_pos rfl⟩)) ?_ ?_ (fun _ => hk)
      · intro b
        by_cases hb : b = at_
        · exact Or.inr ⟨_, _, if_pos hb⟩
        · exact Or.inl (if_neg hb)
      · intro b u z
        by_cases hb : b = at_
        · have z2 := (if_pos hb).symm.trans z
          cases z2
          subst hb
          exact ⟨obj, by rw [List.length_map]; exact few, raw, _, rel, obj⟩
        · have z2 := (if_neg hb).symm.trans z
          cases z2
      · intro b z
        by_cases hb : b = at_
        · exact hb
        · exact absurd (if_neg hb) z
  intro hp only sq ok alone notK
  have un1 : ∀ {b : Addr} {o : Obj}, st.heap.get? b = some o → (∀ vs n, o.data ≠ .seq vs n) → hp b = none := by
    intro b o q d
    cases hb : hp b with
    | none => rfl
    | some u =>
      have e1 := alone b (by rw [hb]; simp)
      subst e1
      rw [obj] at q
      cases q
      exact absurd rfl (d _ _)
  have hid : ∀ {b : Addr} {o : Obj}, st.heap.get? b = some o → hp b = none → (hidT st.heap hp).get? b = some o := fun q z => hidT_get q z
  have ns1 : ∀ {b : Addr} {m : Str → Option Value}, st.heap.Ns b m → (hidT st.heap hp).Ns b m := by
    rintro b m ⟨o, es, ep, q, d, r⟩
    exact ⟨o, es, ep, hid q (un1 q (by intro vs k z; rw [d] at z; cases z)), d, r⟩
  have inK1 : K.In (hidT st.heap hp) := by
    intro b o q
    refine hid (inK b o q) ?_
    cases hb : hp b with
    | none => rfl
    | some u =>
      have e1 := alone b (by rw [hb]; simp)
      subst e1
      have z := notK (by rw [hb]; simp)
      rw [q] at z
      cases z
  have mod1 : Mod K mg (hidT st.heap hp) := by
    refine ⟨inK1, ns1 glob, ⟨mb, ns1 blt, bltIs⟩, ?_⟩
    obtain ⟨mc, a1, a2⟩ := noLim
    exact ⟨mc, ns1 a1, a2⟩
  have env1 : Env0 P w K mg (hidT st.heap hp) callerA [] st hp := by
    refine ⟨rfl, mod1, fun b o q => of_hidT q, Nat.le_of_eq (hidT_size _ _), trivial, ?_, ok, .of_eq gens⟩
    intro b hb
    cases (show b ∈ ([] : List Addr) from hb)
  refine codeAny_mono ((F _ inK1 (ns1 glob)).go callerA [] st hp [.ref at_] [.ref at_] _ rfl room env1 (bnd st (.ref at_)) (.cons rfl .nil) (told hp only sq)) ?_
  intro r s2 h
  cases r with
  | error ex => exact h.elim
  | ok fl =>
    cases fl with
    | next => exact h.elim
    | brk => exact h.elim
    | cont => exact h.elim
    | ret u =>
      obtain ⟨v, h2, os, bare, un, ok2, rv, q⟩ := h
      have q2 : v = .bl true := q
      subst q2
      obtain rfl : u = Value.bool true := rv
      refine ⟨rfl, PySem.OldK.of_keep ?_, os, bare⟩
      intro b o z
      cases hb : hp b with
      | none => exact un.keep b o z hb (by intro y; cases (show b ∈ ([] : List Addr) from y)) (by simp)
      | some u =>
        rcases only b with y | ⟨ob, xs, y⟩
        · rw [hb] at y; cases y
        · have y2 := un.frzs b ob _ y
          obtain ⟨e1, _⟩ := ok b _ y
          obtain ⟨e2, _⟩ := ok2 b _ y2
          rw [z] at e1
          cases e1
          exact e2
theorem walk_run {l : PySem.W.OpenLaw} {most n : Nat} {q : Program} {loose : List Str} {XP : (Str → Option Value) → Heap → Prop} {YP : World → Heap → Prop} {d : PySem.DefRec} {K : PySem.Params → PySem.W.Frag} {pr : World → Sp} {x : Str}
    (hn : l.most = some most) (few : most ≤ sizeLine) (hdf : d.params.defaults = []) (room : Room n callerA)
    (hY : ∀ (w : World) (h : Heap), YP w h → (K w.params).In h)
    (F : ∀ (w : World) (mg : Str → Option Value) (fa : Addr) (h : Heap), (K w.params).In h → h.Ns mainGlobals mg → mg d.name = some (.ref fa) →
      ∃ fd : FuncData, (∀ (s : Shared) (u : Value), BindsTo s fd ⟨[u], []⟩ [(x, u)]) ∧
        ∀ base : Heap, (K w.params).In base → base.Ns mainGlobals mg → GOk l.prog w (K w.params) mg base n fa fd [x] (pr w))
    (told : ∀ (w : World) (hp : Hp) (a : Addr) (ns : List Int), ns.length ≤ most → (∀ z ∈ ns, Builtin.Int.intBits z ≤ 1048576) → Only hp →
      SqL (K w.params) hp a (ns.map V.int) → pr w [.ref a] hp (fun v _ => v = .bl true) E0) :
    PySem.W.WalkO q loose XP YP l.row.toRowW d [] (fun f vs => PySem.call f vs) := by
  refine Att.attach_callB hn hdf ?_
  intro w s0 st mg mb fa o pm cd doc a raw ns G Y ho hd hcd hmg obj nums nfew bits gens
  have inK := hY w _ Y
  obtain ⟨fd, b, hF⟩ := F w mg fa _ inK G.T.g hmg
  exact law_run inK G.T.g G.T.b G.T.builtins G.T.nolimit gens obj nums (Nat.le_trans nfew few) room hF b (fun hp o1 sq => told w hp a ns nfew bits o1 sq)
end EP

namespace EP
open PySem PySem.Spec PyProof.Rows L2
/-! ### heaps that grow -/
def Kp (H H' : Hp) : Prop := ∀ a o, H a = some o → H' a = some o
theorem Kp.refl (H : Hp) : Kp H H := fun _ _ h => h
theorem Kp.trans {H H1 H2 : Hp} (a : Kp H H1) (b : Kp H1 H2) : Kp H H2 := fun x o h => b x o (a x o h)
theorem Kp.new {H : Hp} {p : Addr} {o : HO} (h : H p = none) : Kp H (upd H p o) := fun b x e => by
  rw [upd_ne (ne_of_none e h)]; exact e
theorem Kp.rd {H H' : Hp} {a : Addr} {u : HO} (k : Kp H H') (h : Rd H a u) : Rd H' a u := by
  cases h with
  | inl h => exact .inl (k _ _ h)
  | inr h => obtain ⟨o, h⟩ := h; exact .inr ⟨o, k _ _ h⟩
theorem Kp.sq {K : PySem.W.Frag} {H H' : Hp} {a : Addr} {xs : List V} (k : Kp H H') (h : SqL K H a xs) : SqL K H' a xs := by
  cases h with
  | inl h => exact .inl (k.rd h)
  | inr h => exact .inr h
theorem Kp.st {K : PySem.W.Frag} {H H' : Hp} {a : Addr} {xs : List V} (k : Kp H H') (h : SqT K H a xs) : SqT K H' a xs := by
  cases h with
  | inl h => exact .inl (k.rd h)
  | inr h => exact .inr h
theorem Kp.free {H H' : Hp} {p : Addr} (k : Kp H H') (h : H' p = none) : H p = none := by
  cases q : H p with
  | none => rfl
  | some o => rw [k p o q] at h; cases h
mutual
theorem Kp.dp {K : PySem.W.Frag} {H H' : Hp} (k : Kp H H') : ∀ (d : PyData) (v : V), Dp K H v d → Dp K H' v d
  | .none, _, h => by cases h; exact .non
  | .bool b, _, h => by cases h; exact .bl b
  | .int i, _, h => by cases h; exact .int i
  | .str x, _, h => by cases h; exact .str x
  | .list ds, _, h => by cases h with | lst hs ha => exact .lst (k.sq hs) (Kp.dpAll k ds _ ha)
  | .tuple ds, _, h => by cases h with | tup hs ha => exact .tup (k.st hs) (Kp.dpAll k ds _ ha)
  | .dict _, _, h => by cases h
theorem Kp.dpAll {K : PySem.W.Frag} {H H' : Hp} (k : Kp H H') : ∀ (ds : List PyData) (vs : List V), DpAll K H vs ds → DpAll K H' vs ds
  | [], _, h => by cases h; exact .nil
  | d :: ds, _, h => by cases h with | cons h1 h2 => exact .cons (Kp.dp k d _ h1) (Kp.dpAll k ds _ h2)
end
/-- all but the object at a stands -/
def Bt (a : Addr) (H H' : Hp) : Prop := ∀ b o, b ≠ a → H b = some o → H' b = some o
theorem Bt.refl (a : Addr) (H : Hp) : Bt a H H := fun _ _ _ h => h
theorem Bt.trans {a : Addr} {H H1 H2 : Hp} (x : Bt a H H1) (y : Bt a H1 H2) : Bt a H H2 := fun b o n h => y b o n (x b o n h)
theorem Kp.bt {a : Addr} {H H' : Hp} (k : Kp H H') : Bt a H H' := fun b o _ h => k b o h
theorem Bt.upd {a : Addr} {H : Hp} {o : HO} : Bt a H (upd H a o) := fun b x n e => by rw [upd_ne n]; exact e
theorem Bt.rd {a b : Addr} {H H' : Hp} {u : HO} (k : Bt a H H') (n : b ≠ a) (h : Rd H b u) : Rd H' b u := by
  cases h with
  | inl h => exact .inl (k _ _ n h)
  | inr h => obtain ⟨o, h⟩ := h; exact .inr ⟨o, k _ _ n h⟩
theorem Bt.sq {K : PySem.W.Frag} {a b : Addr} {H H' : Hp} {xs : List V} (k : Bt a H H') (n : b ≠ a) (h : SqL K H b xs) : SqL K H' b xs := by
  cases h with
  | inl h => exact .inl (k.rd n h)
  | inr h => exact .inr h
theorem sqL {K : PySem.W.Frag} {H : Hp} {a : Addr} {xs : List V} (h : H a = some (.lst xs)) : SqL K H a xs := .inl (.inl h)
theorem sqT {K : PySem.W.Frag} {H : Hp} {a : Addr} {xs : List V} (h : H a = some (.tup xs)) : SqT K H a xs := .inl (.inl h)
theorem szOk {n : Nat} (h : n ≤ 100000) : n ≤ sizeLine := Nat.le_trans h (by decide)
theorem szLt {n : Nat} (h : n < 100000) : n < sizeLine := Nat.lt_of_lt_of_le h (by decide)
theorem un66 {k : Nat} {A : Around} (r : Room k A) : A.units + 66 < cLine := by have := r.un; omega
/-! ### data -/
theorem dpInts {K : PySem.W.Frag} {H : Hp} : ∀ ns : List Int, DpAll K H (ns.map V.int) (ns.map PyData.int)
  | [] => .nil
  | n :: r => .cons (.int n) (dpInts r)
theorem dpIntList {K : PySem.W.Frag} {H : Hp} {a : Addr} {ns : List Int} (h : SqL K H a (ns.map V.int)) : Dp K H (.ref a) (.list (ns.map PyData.int)) := .lst h (dpInts ns)
theorem dpIntTup {K : PySem.W.Frag} {H : Hp} {a : Addr} {ns : List Int} (h : SqT K H a (ns.map V.int)) : Dp K H (.ref a) (.tuple (ns.map PyData.int)) := .tup h (dpInts ns)
mutual
/-- numbers, truths, None, lists and tuples of such, of at most f levels, that can be written out -/
def okD : Nat → PyData → Bool
  | _, .none => true
  | _, .bool _ => true
  | _, .int i => decide (i.natAbs.log2 < 1900)
  | 0, _ => false
  | f + 1, .list xs => okAll f xs
  | f + 1, .tuple xs => okAll f xs
  | _, _ => false
def okAll : Nat → List PyData → Bool
  | _, [] => true
  | f, x :: xs => okD f x && okAll f xs
end
mutual
def nodes : PyData → Nat
  | .list xs => nodesAll xs + 1
  | .tuple xs => nodesAll xs + 1
  | _ => 1
def nodesAll : List PyData → Nat
  | [] => 0
  | x :: xs => nodes x + nodesAll xs
end
theorem piledC (t : Str) (ts : List Str) : piled (t :: ts) = (t.length + 2) + piled ts := by simp [piled]
theorem textFromLe : ∀ (ts : List Str) (k : Nat) (acc : Str), (textFrom k acc ts).length ≤ acc.length + piled ts
  | [], k, acc => by show acc.length ≤ _; omega
  | t :: r, k, acc => by
    have h := textFromLe r (k + 1) (acc ++ (if k > 0 then ", " else "" : String) ++ t)
    have e : (acc ++ (if k > 0 then ", " else "" : String) ++ t).length = acc.length + (if k > 0 then 2 else 0) + t.length := by
      rw [strLen_append, strLen_append]
      split <;> rfl
    rw [e] at h
    rw [piledC]
    show (textFrom (k + 1) _ r).length ≤ _
    have : (if k > 0 then 2 else 0 : Nat) ≤ 2 := by split <;> omega
    omega
theorem listTextLe (ts : List Str) : (listText ts).length ≤ piled ts + 2 := by
  unfold listText
  rw [strLen_append]
  have h := textFromLe ts 0 "["
  have e1 : ((("[" : String) : Str)).length = 1 := rfl
  have e2 : ((("]" : String) : Str)).length = 1 := rfl
  rw [e1] at h
  rw [e2]
  omega
theorem intTextLe {i : Int} (h : i.natAbs.log2 < 1900) : (Str.ofString (toString i)).length ≤ 1901 := by
  have h1 := int_text_length_le (a := i) (k := 1900) (by decide) h
  rw [PySem.ofString_length]
  omega
mutual
theorem shownLe : ∀ (f : Nat) (d : PyData), okD f d = true → d.shown.length + 2 ≤ 2004 * nodes d
  | _, .none, _ => by decide
  | _, .bool b, _ => by cases b <;> decide
  | _, .int i, h => by
    have h1 : i.natAbs.log2 < 1900 := by simpa [okD] using h
    have h2 := intTextLe h1
    show (Str.ofString (toString i)).length + 2 ≤ 2004 * 1
    omega
  | 0, .str _, h => by simp [okD] at h
  | 0, .list _, h => by simp [okD] at h
  | 0, .tuple _, h => by simp [okD] at h
  | 0, .dict _, h => by simp [okD] at h
  | f + 1, .str _, h => by simp [okD] at h
  | f + 1, .dict _, h => by simp [okD] at h
  | f + 1, .list xs, h => by
    have h1 : okAll f xs = true := by simpa [okD] using h
    have h2 := shownAllLe f xs h1
    have h3 := listTextLe (PyData.shownAll xs)
    show (listText (PyData.shownAll xs)).length + 2 ≤ 2004 * (nodesAll xs + 1)
    omega
  | f + 1, .tuple xs, h => by
    have h1 : okAll f xs = true := by simpa [okD] using h
    have h2 := shownAllLe f xs h1
    have h3 := fmt_text (PyData.shownAll xs)
    show (tupleText (PyData.shownAll xs)).length + 2 ≤ 2004 * (nodesAll xs + 1)
    omega
theorem shownAllLe : ∀ (f : Nat) (xs : List PyData), okAll f xs = true → piled (PyData.shownAll xs) ≤ 2004 * nodesAll xs
  | _, [], _ => by decide
  | f, x :: xs, h => by
    have h1 : okD f x = true ∧ okAll f xs = true := by simpa [okAll] using h
    have h2 := shownLe f x h1.1
    have h3 := shownAllLe f xs h1.2
    show piled (PyData.shown x :: PyData.shownAll xs) ≤ 2004 * (nodes x + nodesAll xs)
    rw [piledC]
    omega
end
mutual
theorem okD_show : ∀ (f : Nat) (d : PyData), okD f d = true → d.showable = true ∧ d.hasDict = false ∧ d.depth ≤ f
  | f, .none, _ => ⟨rfl, rfl, Nat.zero_le _⟩
  | f, .bool b, _ => ⟨rfl, rfl, Nat.zero_le _⟩
  | f, .int i, h => by
    have h1 : i.natAbs.log2 < 1900 := by simpa [okD] using h
    refine ⟨?_, rfl, Nat.zero_le _⟩
    show decide (i.natAbs.log2 < 1920) = true
    exact decide_eq_true (by omega)
  | 0, .str _, h => by simp [okD] at h
  | 0, .list _, h => by simp [okD] at h
  | 0, .tuple _, h => by simp [okD] at h
  | 0, .dict _, h => by simp [okD] at h
  | f + 1, .str _, h => by simp [okD] at h
  | f + 1, .dict _, h => by simp [okD] at h
  | f + 1, .list xs, h => by
    have h1 : okAll f xs = true := by simpa [okD] using h
    obtain ⟨a, b, c⟩ := okAll_show f xs h1
    refine ⟨a, b, ?_⟩
    show PyData.depthAll xs + 1 ≤ f + 1
    omega
  | f + 1, .tuple xs, h => by
    have h1 : okAll f xs = true := by simpa [okD] using h
    obtain ⟨a, b, c⟩ := okAll_show f xs h1
    refine ⟨a, b, ?_⟩
    show PyData.depthAll xs + 1 ≤ f + 1
    omega
theorem okAll_show : ∀ (f : Nat) (xs : List PyData), okAll f xs = true → PyData.showableAll xs = true ∧ PyData.hasDictAll xs = false ∧ PyData.depthAll xs ≤ f
  | f, [], _ => ⟨rfl, rfl, Nat.zero_le _⟩
  | f, x :: xs, h => by
    have h1 : okD f x = true ∧ okAll f xs = true := by simpa [okAll] using h
    obtain ⟨a, b, c⟩ := okD_show f x h1.1
    obtain ⟨a2, b2, c2⟩ := okAll_show f xs h1.2
    refine ⟨?_, ?_, ?_⟩
    · show (PyData.showable x && PyData.showableAll xs) = true
      rw [a, a2]; rfl
    · show (PyData.hasDict x || PyData.hasDictAll xs) = false
      rw [b, b2]; rfl
    · show max (PyData.depth x) (PyData.depthAll xs) ≤ f
      omega
end
mutual
theorem okD_lay : ∀ (f : Nat) (d : PyData), okD f d = true → d.canLay0 = true
  | f, .none, _ => by simp [PyData.canLay0]
  | f, .bool b, _ => by simp [PyData.canLay0]
  | f, .int i, h => by simp [PyData.canLay0]
  | 0, .str _, h => by simp [okD] at h
  | 0, .list _, h => by simp [okD] at h
  | 0, .tuple _, h => by simp [okD] at h
  | 0, .dict _, h => by simp [okD] at h
  | f + 1, .str _, h => by simp [okD] at h
  | f + 1, .dict _, h => by simp [okD] at h
  | f + 1, .list xs, h => by
    have h1 : okAll f xs = true := by simpa [okD] using h
    have h2 := okAll_lay f xs h1
    simp only [PyData.canLay0]; exact h2
  | f + 1, .tuple xs, h => by
    have h1 : okAll f xs = true := by simpa [okD] using h
    have h2 := okAll_lay f xs h1
    simp only [PyData.canLay0]; exact h2
theorem okAll_lay : ∀ (f : Nat) (xs : List PyData), okAll f xs = true → PyData.canLayAll0 xs = true
  | f, [], _ => by simp [PyData.canLayAll0]
  | f, x :: xs, h => by
    have h1 : okD f x = true ∧ okAll f xs = true := by simpa [okAll] using h
    simp only [PyData.canLayAll0, okD_lay f x h1.1, okAll_lay f xs h1.2, Bool.and_self]
end
theorem okD_shaped {f : Nat} {d : PyData} (h : okD f d = true) (hf : f ≤ 64) : SeqAt.shaped d = true := by
  have h1 := okD_lay f d h
  obtain ⟨_, _, h2⟩ := okD_show f d h
  show (d.canLay0 && decide (d.depth ≤ 64)) = true
  rw [Bool.and_eq_true]
  exact ⟨h1, decide_eq_true (by omega)⟩
/-- repr of small data -/
def rRep (K : PySem.W.Frag) : List V → Hp → VK → Prop := fun xs H Q => ∃ a d, xs = [.ref a] ∧ Dp K H (.ref a) d ∧ okD 8 d = true ∧ nodes d ≤ 4000 ∧ Q (.str d.shown) H
theorem call_rep {X : Cx} (hg : X.A.guards = some []) (hu : X.A.units + 66 < cLine) : CallR X (.builtin "repr") (rRep X.K) := by
  intro pins s σ H xs us Q I r h
  obtain ⟨a, d, e, hd, h1, h2, q⟩ := h
  obtain ⟨h3, h4, h5⟩ := okD_show 8 d h1
  have h6 := shownLe 8 d h1
  refine call_reprD hg hu pins s σ H xs us Q I r ⟨a, d, e, hd, h3, h4, by omega, ?_, q⟩
  rw [sizeLine_eq]
  omega
theorem okInts {f : Nat} : ∀ {ns : List Int}, (∀ n ∈ ns, n.natAbs.log2 < 1900) → okAll f (ns.map PyData.int) = true
  | [], _ => rfl
  | n :: r, h => by
    show (okD f (.int n) && okAll f (r.map PyData.int)) = true
    rw [okInts fun m hm => h m (List.mem_cons_of_mem _ hm), Bool.and_true]
    cases f <;> exact decide_eq_true (h n List.mem_cons_self)
theorem nodesInts : ∀ ns : List Int, nodesAll (ns.map PyData.int) = ns.length
  | [] => rfl
  | n :: r => by
    show nodes (.int n) + nodesAll (r.map PyData.int) = r.length + 1
    rw [nodesInts r]
    show 1 + r.length = r.length + 1
    omega
theorem nodesL (ns : List Int) (h : ns.length ≤ 3000) : nodes (.list (ns.map PyData.int)) ≤ 4000 := by
  show nodesAll (ns.map PyData.int) + 1 ≤ 4000
  rw [nodesInts]; omega
theorem nodesT (ns : List Int) (h : ns.length ≤ 3000) : nodes (.tuple (ns.map PyData.int)) ≤ 4000 := by
  show nodesAll (ns.map PyData.int) + 1 ≤ 4000
  rw [nodesInts]; omega
theorem shortInt {n : Int} (h : -(2 ^ 200) < n ∧ n < 2 ^ 200) : n.natAbs.log2 < 1900 := by
  have h0 : n.natAbs < 2 ^ 200 := by omega
  have h1 : n.natAbs < 2 ^ 1900 := Nat.lt_of_lt_of_le h0 (Nat.pow_le_pow_right (by decide) (by decide))
  by_cases z : n.natAbs = 0
  · rw [z]; decide
  · exact (Nat.log2_lt z).mpr h1
/-! ### great numbers -/
def CDivX (_ j : Int) : Prop := j ≠ 0 ∧ j.natAbs < 2 ^ 8000
theorem log2Lt {n k : Nat} (hk : 0 < k) (h : n < 2 ^ k) : n.log2 < k := by
  by_cases z : n = 0
  · rw [z]; simpa using hk
  · exact (Nat.log2_lt z).mpr h
theorem op_fdivX {X : Cx} : OpR X (binaryOp .FloorDiv) (rI CDivX fun i j => .int (i.fdiv j)) := opI fun i j _ _ _ _ _ hc q => by
  refine floordiv_int hc.1 q (.inl (PyProof.noPylong_of_log2 ?_))
  have := log2Lt (show 0 < 8000 by decide) hc.2
  omega
def CPowX (i j : Int) : Prop := 0 ≤ j ∧ (Builtin.Int.intBits i : Int) * j ≤ 2 ^ 27
theorem op_powX {X : Cx} : OpR X (binaryOp .Pow) (rI CPowX fun i j => .int (i ^ j.toNat)) := opI fun _ _ _ _ _ _ _ hc q => pow_int hc.1 hc.2 q
/-- the bound on how many digits a number has -/
theorem beyond {n : Int} (h : -(2 ^ 250) < n ∧ n < 2 ^ 250) : (if n < 0 then -n else n) < ((10 : Int) ^ (50 : Int).toNat) ^ (8 : Int).toNat := by
  have e : (2 : Int) ^ 250 ≤ ((10 : Int) ^ (50 : Int).toNat) ^ (8 : Int).toNat := by decide +kernel
  refine Int.lt_of_lt_of_le ?_ e
  split <;> omega
end EP

namespace FL
open PySem PySem.Spec PyProof.Rows L2 EP
/-- a test that no kernel works out: its answer is told by cdec_iff alone -/
noncomputable def cdec (p : Prop) : Bool := @decide p (Classical.propDecidable p)
theorem cdec_iff {p : Prop} : cdec p = true ↔ p := ⟨fun h => @of_decide_eq_true p (Classical.propDecidable p) h, fun h => @decide_eq_true p (Classical.propDecidable p) h⟩
theorem cdec_of {p : Prop} (h : p) : cdec p = true := cdec_iff.mpr h
theorem of_cdec {p : Prop} (h : cdec p = true) : p := cdec_iff.mp h
abbrev D := PyData
abbrev Pot := List Int
/-- what a name of a def holds: nothing that matters, data that nothing changes, a list that the def may read alone, a list or dict of its own, the pot -/
inductive Slot where
  | un | dat (d : D) | arg (ds : List D) | own (ds : List D) | dct (kvs : List (Key × D)) | pot | scr (ns : List Int)
abbrev En := List Slot
def Slot.isOwn : Slot → Bool
  | .own _ => true
  | .dct _ => true
  | _ => false
@[simp] theorem isOwn_un : Slot.un.isOwn = false := rfl
@[simp] theorem isOwn_dat (d : D) : (Slot.dat d).isOwn = false := rfl
@[simp] theorem isOwn_arg (d : List D) : (Slot.arg d).isOwn = false := rfl
@[simp] theorem isOwn_own (d : List D) : (Slot.own d).isOwn = true := rfl
@[simp] theorem isOwn_pot : Slot.pot.isOwn = false := rfl
/-- what belongs to a def's run: addresses that it must not hand on, its pot -/
structure Fm where
  S0 : Addr → Prop
  pt : Option Addr
section
variable (K : PySem.W.Frag)
def STp (H : Hp) (S : Addr → Prop) (a : Addr) (xs : List V) : Prop := (Rd H a (.tup xs) ∧ ¬ S a) ∨ SqT K (fun _ => none) a xs
mutual
/-- the value v is the data d, by objects that are not of S -/
inductive Dv (H : Hp) (S : Addr → Prop) : V → D → Prop
  | non : Dv H S .non .none
  | bl (b : Bool) : Dv H S (.bl b) (.bool b)
  | int (i : Int) : Dv H S (.int i) (.int i)
  | str (x : Str) : Dv H S (.str x) (.str x)
  | lst {a : Addr} {xs : List V} {ds : List D} : H a = some (.lst xs) → ¬ S a → DvA H S xs ds → Dv H S (.ref a) (.list ds)
  | tup {a : Addr} {xs : List V} {ds : List D} : STp K H S a xs → DvA H S xs ds → Dv H S (.ref a) (.tuple ds)
  | dct0 {a : Addr} : H a = some (.dK []) → ¬ S a → Dv H S (.ref a) (.dict [])
inductive DvA (H : Hp) (S : Addr → Prop) : List V → List D → Prop
  | nil : DvA H S [] []
  | cons {v : V} {vs : List V} {d : D} {ds : List D} : Dv H S v d → DvA H S vs ds → DvA H S (v :: vs) (d :: ds)
end
end
variable {K : PySem.W.Frag}
/-! ### how the heap goes on -/
/-- a state: what may change, what must not be handed on, the heap -/
structure Wd where
  U : Addr → Prop
  S : Addr → Prop
  H : Hp
structure Step (A B : Wd) : Prop where
  keep : ∀ b o, ¬ A.U b → A.H b = some o → B.H b = some o
  u : ∀ a, B.U a → A.U a ∨ A.H a = none
  s : ∀ a, B.S a → A.S a ∨ A.H a = none
theorem Step.refl (A : Wd) : Step A A := ⟨fun _ _ _ h => h, fun _ h => .inl h, fun _ h => .inl h⟩
theorem Step.none {A B : Wd} (x : Step A B) {a : Addr} (h : B.H a = none) : A.U a ∨ A.H a = none := by
  by_cases c : A.U a
  · exact .inl c
  · cases e : A.H a with
    | none => exact .inr rfl
    | some o => rw [x.keep a o c e] at h; cases h
theorem Step.trans {A B C : Wd} (us : ∀ a, A.U a → A.S a) (x : Step A B) (y : Step B C) : Step A C := by
  refine ⟨fun b o n e => ?_, fun a h => ?_, fun a h => ?_⟩
  · refine y.keep b o (fun z => ?_) (x.keep b o n e)
    rcases x.u b z with q | q
    · exact n q
    · rw [q] at e; cases e
  · rcases y.u a h with q | q
    · exact x.u a q
    · exact x.none q
  · rcases y.s a h with q | q
    · exact x.s a q
    · rcases x.none q with r | r
      · exact .inl (us a r)
      · exact .inr r
theorem STp.step {A B : Wd} (us : ∀ a, A.U a → A.S a) (x : Step A B) {a : Addr} {xs : List V} (h : STp K A.H A.S a xs) : STp K B.H B.S a xs := by
  rcases h with ⟨r, n⟩ | h
  · refine .inl ⟨?_, fun z => ?_⟩
    · rcases r with r | ⟨o, r⟩
      · exact .inl (x.keep _ _ (fun z => n (us a z)) r)
      · exact .inr ⟨o, x.keep _ _ (fun z => n (us a z)) r⟩
    · rcases x.s a z with q | q
      · exact n q
      · rcases r with r | ⟨o, r⟩ <;> rw [q] at r <;> cases r
  · exact .inr h
mutual
theorem Dv.step {A B : Wd} (us : ∀ a, A.U a → A.S a) (x : Step A B) : ∀ {d : D} {v : V}, Dv K A.H A.S v d → Dv K B.H B.S v d
  | .none, _, h => by cases h; exact .non
  | .bool b, _, h => by cases h; exact .bl b
  | .int i, _, h => by cases h; exact .int i
  | .str s, _, h => by cases h; exact .str s
  | .list ds, _, h => by
    cases h with
    | lst e n r =>
      refine .lst (x.keep _ _ (fun z => n (us _ z)) e) (fun z => ?_) (DvA.step us x r)
      rcases x.s _ z with q | q
      · exact n q
      · rw [q] at e; cases e
  | .tuple ds, _, h => by cases h with | tup e r => exact .tup (e.step us x) (DvA.step us x r)
  | .dict _, _, h => by
    cases h with
    | dct0 e n =>
      refine .dct0 (x.keep _ _ (fun z => n (us _ z)) e) (fun z => ?_)
      rcases x.s _ z with q | q
      · exact n q
      · rw [q] at e; cases e
theorem DvA.step {A B : Wd} (us : ∀ a, A.U a → A.S a) (x : Step A B) : ∀ {ds : List D} {vs : List V}, DvA K A.H A.S vs ds → DvA K B.H B.S vs ds
  | [], _, h => by cases h; exact .nil
  | d :: ds, _, h => by cases h with | cons a b => exact .cons (Dv.step us x a) (DvA.step us x b)
end
theorem DvA.length {H : Hp} {S : Addr → Prop} : ∀ {vs : List V} {ds : List D}, DvA K H S vs ds → vs.length = ds.length
  | _, _, .nil => rfl
  | _, _, .cons _ r => congrArg (· + 1) r.length
theorem DvA.get {H : Hp} {S : Addr → Prop} : ∀ {vs : List V} {ds : List D} {i : Nat} {d : D}, DvA K H S vs ds → ds[i]? = some d → ∃ v, vs[i]? = some v ∧ Dv K H S v d
  | _, _, i, d, .nil, h => by simp at h
  | _, _, 0, d, .cons a _, h => by simp at h; subst h; exact ⟨_, rfl, a⟩
  | _, _, i + 1, d, .cons _ r, h => by
    rw [List.getElem?_cons_succ] at h
    obtain ⟨v, e, q⟩ := r.get h
    exact ⟨v, by rw [List.getElem?_cons_succ]; exact e, q⟩
theorem DvA.append {H : Hp} {S : Addr → Prop} {vs ws : List V} {ds es : List D} (a : DvA K H S vs ds) (b : DvA K H S ws es) : DvA K H S (vs ++ ws) (ds ++ es) := by
  induction ds generalizing vs with
  | nil => cases a; exact b
  | cons d ds ih => cases a with | cons x y => exact .cons x (ih y)
theorem DvA.set {H : Hp} {S : Addr → Prop} {v : V} {d : D} (h : Dv K H S v d) : ∀ {vs : List V} {ds : List D} (i : Nat), DvA K H S vs ds → DvA K H S (vs.set i v) (ds.set i d)
  | _, _, _, .nil => .nil
  | _, _, 0, .cons _ r => .cons h r
  | _, _, i + 1, .cons a r => .cons a (r.set h i)
theorem DvA.take {H : Hp} {S : Addr → Prop} : ∀ {vs : List V} {ds : List D} (n : Nat), DvA K H S vs ds → DvA K H S (vs.take n) (ds.take n)
  | _, _, _, .nil => by simp only [List.take_nil]; exact .nil
  | _, _, 0, .cons _ _ => .nil
  | _, _, n + 1, .cons a r => .cons a (r.take n)
theorem DvA.drop {H : Hp} {S : Addr → Prop} : ∀ {vs : List V} {ds : List D} (n : Nat), DvA K H S vs ds → DvA K H S (vs.drop n) (ds.drop n)
  | _, _, _, .nil => by simp only [List.drop_nil]; exact .nil
  | _, _, 0, .cons a r => .cons a r
  | _, _, n + 1, .cons a r => r.drop n
theorem DvA.reverse {H : Hp} {S : Addr → Prop} {vs : List V} {ds : List D} (a : DvA K H S vs ds) : DvA K H S vs.reverse ds.reverse := by
  induction ds generalizing vs with
  | nil => cases a; exact .nil
  | cons d ds ih => cases a with | cons x y => rw [List.reverse_cons, List.reverse_cons]; exact (ih y).append (.cons x .nil)
/-- as data of the kit -/
theorem STp.sq {H : Hp} {S : Addr → Prop} {a : Addr} {xs : List V} (h : STp K H S a xs) : SqT K H a xs := by
  rcases h with ⟨r, _⟩ | r
  · exact .inl r
  · rcases r with r | r
    · rcases r with r | ⟨_, r⟩ <;> cases r
    · exact .inr r
mutual
theorem Dv.dp {H : Hp} {S : Addr → Prop} : ∀ {d : D} {v : V}, d.canLay0 = true → Dv K H S v d → Dp K H v d
  | .none, _, _, h => by cases h; exact .non
  | .bool b, _, _, h => by cases h; exact .bl b
  | .int i, _, _, h => by cases h; exact .int i
  | .str s, _, _, h => by cases h; exact .str s
  | .list ds, _, c, h => by cases h with | lst e n r => exact .lst (sqL e) (DvA.dp (by simpa [PyData.canLay0] using c) r)
  | .tuple ds, _, c, h => by cases h with | tup e r => exact .tup e.sq (DvA.dp (by simpa [PyData.canLay0] using c) r)
  | .dict _, _, c, h => by simp [PyData.canLay0] at c
theorem DvA.dp {H : Hp} {S : Addr → Prop} : ∀ {ds : List D} {vs : List V}, PyData.canLayAll0 ds = true → DvA K H S vs ds → DpAll K H vs ds
  | [], _, _, h => by cases h; exact .nil
  | d :: ds, _, c, h => by
    have c2 : d.canLay0 = true ∧ PyData.canLayAll0 ds = true := by simpa [PyData.canLayAll0] using c
    cases h with | cons a b => exact .cons (Dv.dp c2.1 a) (DvA.dp c2.2 b)
end
/-! ### a def's names -/
def IsOwn (σ : L2.St) (ρ : En) (a : Addr) : Prop := ∃ (i : Nat) (s : Slot), ρ[i]? = some s ∧ s.isOwn = true ∧ σ[i]? = some (some (.ref a))
def wd (fr : Fm) (σ : L2.St) (ρ : En) (H : Hp) : Wd := ⟨fun a => fr.pt = some a ∨ IsOwn σ ρ a, fun a => fr.S0 a ∨ IsOwn σ ρ a, H⟩
def SlotOk (K : PySem.W.Frag) (fr : Fm) (A : Wd) (o : Option (Option V)) : Slot → Prop
  | .un => True
  | .dat d => ∃ v, o = some (some v) ∧ Dv K A.H A.S v d
  | .arg ds => ∃ a xs, o = some (some (.ref a)) ∧ A.H a = some (.lst xs) ∧ ¬ A.U a ∧ DvA K A.H A.S xs ds
  | .own ds => ∃ a xs, o = some (some (.ref a)) ∧ A.H a = some (.lst xs) ∧ DvA K A.H A.S xs ds
  | .dct kvs => ∃ a ks, o = some (some (.ref a)) ∧ A.H a = some (.dK ks) ∧ ks.map (·.1) = kvs.map (·.1) ∧ DvA K A.H A.S (ks.map (·.2)) (kvs.map (·.2))
  | .pot => ∃ a, o = some (some (.ref a)) ∧ fr.pt = some a
  | .scr ns => ∃ a, o = some (some (.ref a)) ∧ SqL K A.H a (ns.map V.int) ∧ ¬ A.U a
structure Rel (K : PySem.W.Frag) (fr : Fm) (σ : L2.St) (H : Hp) (ρ : En) (π : Pot) : Prop where
  len : σ.length = ρ.length
  slot : ∀ (i : Nat) (s : Slot), ρ[i]? = some s → SlotOk K fr (wd fr σ ρ H) σ[i]? s
  nd : ∀ (i j : Nat) (s t : Slot) (a : Addr), ρ[i]? = some s → ρ[j]? = some t → s.isOwn = true → t.isOwn = true → σ[i]? = some (some (.ref a)) → σ[j]? = some (some (.ref a)) → i = j
  all : ∀ a, fr.S0 a → H a ≠ none
  pt : ∀ a, fr.pt = some a → fr.S0 a ∧ ¬ IsOwn σ ρ a ∧ H a = some (.lst (π.map V.int))
  os : ∀ a, IsOwn σ ρ a → ¬ fr.S0 a
theorem Rel.us {fr : Fm} {σ : L2.St} {H : Hp} {ρ : En} {π : Pot} (r : Rel K fr σ H ρ π) : ∀ a, (wd fr σ ρ H).U a → (wd fr σ ρ H).S a := by
  rintro a (h | h)
  · exact .inl (r.pt a h).1
  · exact .inr h
theorem Rel.ownSome {fr : Fm} {σ : L2.St} {H : Hp} {ρ : En} {π : Pot} (r : Rel K fr σ H ρ π) {a : Addr} (h : IsOwn σ ρ a) : H a ≠ none := by
  obtain ⟨i, s, e, o, q⟩ := h
  have z := r.slot i s e
  cases s with
  | own ds =>
    obtain ⟨b, xs, e2, e3, _⟩ := z
    rw [q] at e2
    cases e2
    intro y
    have e3 : H a = _ := e3
    rw [y] at e3; cases e3
  | dct kvs =>
    obtain ⟨b, xs, e2, e3, _⟩ := z
    rw [q] at e2
    cases e2
    intro y
    have e3 : H a = _ := e3
    rw [y] at e3; cases e3
  | _ => cases o
theorem Rel.sSome {fr : Fm} {σ : L2.St} {H : Hp} {ρ : En} {π : Pot} (r : Rel K fr σ H ρ π) {a : Addr} (h : (wd fr σ ρ H).S a) : H a ≠ none := by
  rcases h with h | h
  · exact r.all a h
  · exact r.ownSome h
/-- within an expression nothing changes but the pot -/
def ChgP (fr : Fm) (H H' : Hp) : Prop := ∀ b o, fr.pt ≠ some b → H b = some o → H' b = some o
theorem ChgP.refl (fr : Fm) (H : Hp) : ChgP fr H H := fun _ _ _ h => h
theorem ChgP.trans {fr : Fm} {H H1 H2 : Hp} (x : ChgP fr H H1) (y : ChgP fr H1 H2) : ChgP fr H H2 := fun b o n h => y b o n (x b o n h)
theorem ChgP.of {fr : Fm} {H H' : Hp} (k : Kp H H') : ChgP fr H H' := fun b o _ h => k b o h
theorem ChgP.step {fr : Fm} {H H' : Hp} (σ : L2.St) (ρ : En) (x : ChgP fr H H') : Step (wd fr σ ρ H) (wd fr σ ρ H') :=
  ⟨fun b o n h => x b o (fun z => n (.inl z)) h, fun _ h => .inl h, fun _ h => .inl h⟩
theorem SlotOk.stepP {fr : Fm} {A B : Wd} {o : Option (Option V)} {s : Slot} (us : ∀ a, A.U a → A.S a) (x : Step A B) (eu : ∀ a, B.U a → A.U a)
    (keep : s.isOwn = true → ∀ a u, o = some (some (.ref a)) → A.H a = some u → B.H a = some u) (h : SlotOk K fr A o s) : SlotOk K fr B o s := by
  cases s with
  | un => trivial
  | dat d => obtain ⟨v, e, q⟩ := h; exact ⟨v, e, q.step us x⟩
  | arg ds => obtain ⟨a, xs, e, q, n, r⟩ := h; exact ⟨a, xs, e, x.keep _ _ n q, fun z => n (eu a z), r.step us x⟩
  | own ds => obtain ⟨a, xs, e, q, r⟩ := h; exact ⟨a, xs, e, keep rfl a _ e q, r.step us x⟩
  | dct kvs => obtain ⟨a, ks, e, q, m, r⟩ := h; exact ⟨a, ks, e, keep rfl a _ e q, m, r.step us x⟩
  | pot => exact h
  | scr ns =>
    obtain ⟨a, e, q, n⟩ := h
    refine ⟨a, e, ?_, fun z => n (eu a z)⟩
    rcases q with (q | ⟨u, q⟩) | q
    · exact .inl (.inl (x.keep _ _ n q))
    · exact .inl (.inr ⟨u, x.keep _ _ n q⟩)
    · exact .inr q
/-- the same names over a heap that went on -/
theorem Rel.chg {fr : Fm} {σ : L2.St} {H H' : Hp} {ρ : En} {π π' : Pot} (r : Rel K fr σ H ρ π) (x : ChgP fr H H')
    (p : ∀ a, fr.pt = some a → H' a = some (.lst (π'.map V.int))) : Rel K fr σ H' ρ π' := by
  have st := x.step σ ρ
  refine ⟨r.len, fun i s e => ?_, r.nd, fun a h => ?_, fun a h => ⟨(r.pt a h).1, (r.pt a h).2.1, p a h⟩, r.os⟩
  · refine (r.slot i s e).stepP r.us st (fun _ h => h) fun o a u e2 q => ?_
    refine x a u (fun z => ?_) q
    exact (r.pt a z).2.1 ⟨i, s, e, o, e2⟩
  · intro z
    by_cases c : fr.pt = some a
    · rw [p a c] at z; cases z
    · cases q : H a with
      | none => exact r.all a h q
      | some o => rw [x a o c q] at z; cases z
/-- a heap that grew -/
theorem Rel.kp {fr : Fm} {σ : L2.St} {H H' : Hp} {ρ : En} {π : Pot} (r : Rel K fr σ H ρ π) (k : Kp H H') : Rel K fr σ H' ρ π := by
  exact r.chg (.of k) fun a h => k _ _ (r.pt a h).2.2
/-! ### expressions -/
abbrev Ex := En → Pot → Option (D × Pot)
/-- data, or a list that may be read alone -/
def Db (K : PySem.W.Frag) (fr : Fm) (H : Hp) (S : Addr → Prop) (v : V) (d : D) : Prop :=
  Dv K H S v d ∨ ∃ a xs ds, v = .ref a ∧ fr.pt ≠ some a ∧ d = .list ds ∧ H a = some (.lst xs) ∧ DvA K H S xs ds
/-- a new list -/
def Dn (K : PySem.W.Frag) (H0 H : Hp) (S : Addr → Prop) (v : V) (d : D) : Prop :=
  ∃ p xs ds, v = .ref p ∧ d = .list ds ∧ H0 p = none ∧ H p = some (.lst xs) ∧ ¬ S p ∧ DvA K H (fun a => S a ∨ a = p) xs ds
structure EF (K : PySem.W.Frag) (t : TE) (f : Ex) : Prop where
  go : ∀ (fr : Fm) (σ : L2.St) (H : Hp) (ρ : En) (π : Pot), Rel K fr σ H ρ π → ∀ d π', f ρ π = some (d, π') → ∀ Q : VK,
    (∀ v H', Rel K fr σ H' ρ π' → ChgP fr H H' → Dv K H' (wd fr σ ρ H').S v d → Q v H') → t σ H Q
structure BF (K : PySem.W.Frag) (t : TE) (f : Ex) : Prop where
  go : ∀ (fr : Fm) (σ : L2.St) (H : Hp) (ρ : En) (π : Pot), Rel K fr σ H ρ π → ∀ d π', f ρ π = some (d, π') → ∀ Q : VK,
    (∀ v H', Rel K fr σ H' ρ π' → ChgP fr H H' → Db K fr H' (wd fr σ ρ H').S v d → Q v H') → t σ H Q
structure NF (K : PySem.W.Frag) (t : TE) (f : Ex) : Prop where
  go : ∀ (fr : Fm) (σ : L2.St) (H : Hp) (ρ : En) (π : Pot), Rel K fr σ H ρ π → ∀ d π', f ρ π = some (d, π') → ∀ Q : VK,
    (∀ v H', Rel K fr σ H' ρ π' → ChgP fr H H' → Dn K H H' (wd fr σ ρ H').S v d → Q v H') → t σ H Q
theorem Dv.weak {H : Hp} {S S' : Addr → Prop} (w : ∀ a, S' a → S a) {v : V} {d : D} (h : Dv K H S v d) : Dv K H S' v d :=
  Dv.step (A := ⟨fun _ => False, S, H⟩) (B := ⟨fun _ => False, S', H⟩) (fun _ z => z.elim) ⟨fun _ _ _ h => h, fun _ z => z.elim, fun a h => .inl (w a h)⟩ h
theorem DvA.weak {H : Hp} {S S' : Addr → Prop} (w : ∀ a, S' a → S a) {v : List V} {d : List D} (h : DvA K H S v d) : DvA K H S' v d :=
  DvA.step (A := ⟨fun _ => False, S, H⟩) (B := ⟨fun _ => False, S', H⟩) (fun _ z => z.elim) ⟨fun _ _ _ h => h, fun _ z => z.elim, fun a h => .inl (w a h)⟩ h
theorem DvA.up {H H' : Hp} {S S' : Addr → Prop} (k : Kp H H') (w : ∀ a, S' a → S a ∨ H a = none) {v : List V} {d : List D} (h : DvA K H S v d) : DvA K H' S' v d :=
  DvA.step (A := ⟨fun _ => False, S, H⟩) (B := ⟨fun _ => False, S', H'⟩) (fun _ z => z.elim) ⟨fun b o _ h => k b o h, fun _ z => z.elim, fun a h => w a h⟩ h
theorem Dv.up {H H' : Hp} {S S' : Addr → Prop} (k : Kp H H') (w : ∀ a, S' a → S a ∨ H a = none) {v : V} {d : D} (h : Dv K H S v d) : Dv K H' S' v d :=
  Dv.step (A := ⟨fun _ => False, S, H⟩) (B := ⟨fun _ => False, S', H'⟩) (fun _ z => z.elim) ⟨fun b o _ h => k b o h, fun _ z => z.elim, fun a h => w a h⟩ h
theorem Dn.dv {H0 H : Hp} {S : Addr → Prop} {v : V} {d : D} (h : Dn K H0 H S v d) : Dv K H S v d := by
  obtain ⟨p, xs, ds, rfl, rfl, _, e, n, r⟩ := h
  exact .lst e n (r.weak fun a h => .inl h)
theorem NF.ef {t : TE} {f : Ex} (h : NF K t f) : EF K t f := ⟨fun fr σ H ρ π r d π' e Q q => h.go fr σ H ρ π r d π' e Q fun v H' r' c n => q v H' r' c n.dv⟩
theorem EF.bf {t : TE} {f : Ex} (h : EF K t f) : BF K t f := ⟨fun fr σ H ρ π r d π' e Q q => h.go fr σ H ρ π r d π' e Q fun v H' r' c n => q v H' r' c (.inl n)⟩
theorem NF.bf {t : TE} {f : Ex} (h : NF K t f) : BF K t f := h.ef.bf
theorem Db.chg {fr : Fm} {σ : L2.St} {ρ : En} {π : Pot} {H H' : Hp} {v : V} {d : D} (r : Rel K fr σ H ρ π) (x : ChgP fr H H') (h : Db K fr H (wd fr σ ρ H).S v d) : Db K fr H' (wd fr σ ρ H').S v d := by
  have st := x.step σ ρ
  rcases h with h | ⟨a, xs, ds, e, n, e2, q, z⟩
  · exact .inl (h.step r.us st)
  · exact .inr ⟨a, xs, ds, e, n, e2, x _ _ n q, z.step r.us st⟩
theorem Db.flat {fr : Fm} {H : Hp} {S : Addr → Prop} {v : V} {d : D} (h : Db K fr H S v d) (n : ∀ ds, d ≠ .list ds) : Dv K H S v d := by
  rcases h with h | ⟨a, xs, ds, e, _, e2, _⟩
  · exact h
  · exact absurd e2 (n ds)
theorem Db.int {fr : Fm} {H : Hp} {S : Addr → Prop} {v : V} {i : Int} (h : Db K fr H S v (.int i)) : v = .int i := by
  have := h.flat (fun ds z => by cases z); cases this; rfl
theorem Db.bool {fr : Fm} {H : Hp} {S : Addr → Prop} {v : V} {i : Bool} (h : Db K fr H S v (.bool i)) : v = .bl i := by
  have := h.flat (fun ds z => by cases z); cases this; rfl
theorem Db.str {fr : Fm} {H : Hp} {S : Addr → Prop} {v : V} {i : Str} (h : Db K fr H S v (.str i)) : v = .str i := by
  have := h.flat (fun ds z => by cases z); cases this; rfl
theorem Db.non {fr : Fm} {H : Hp} {S : Addr → Prop} {v : V} (h : Db K fr H S v .none) : v = .non := by
  have := h.flat (fun ds z => by cases z); cases this; rfl
theorem Db.list {fr : Fm} {H : Hp} {S : Addr → Prop} {v : V} {ds : List D} (h : Db K fr H S v (.list ds)) : ∃ a xs, v = .ref a ∧ H a = some (.lst xs) ∧ DvA K H S xs ds := by
  rcases h with h | ⟨a, xs, es, e, n, e2, q, z⟩
  · cases h with | lst e n r => exact ⟨_, _, rfl, e, r⟩
  · cases e2; exact ⟨a, xs, e, q, z⟩
theorem Db.tuple {fr : Fm} {H : Hp} {S : Addr → Prop} {v : V} {ds : List D} (h : Db K fr H S v (.tuple ds)) : ∃ a xs, v = .ref a ∧ STp K H S a xs ∧ DvA K H S xs ds := by
  have := h.flat (fun ds z => by cases z); cases this with | tup e r => exact ⟨_, _, rfl, e, r⟩
theorem Db.dp {fr : Fm} {H : Hp} {S : Addr → Prop} {v : V} {d : D} (c : d.canLay0 = true) (h : Db K fr H S v d) : Dp K H v d := by
  rcases h with h | ⟨a, xs, ds, rfl, _, rfl, q, z⟩
  · exact h.dp c
  · exact .lst (sqL q) (z.dp (by simpa [PyData.canLay0] using c))
theorem shaped_lay {d : D} (h : SeqAt.shaped d = true) : d.canLay0 = true := by
  have h2 : (d.canLay0 && decide (d.depth ≤ 64)) = true := h
  rw [Bool.and_eq_true] at h2
  exact h2.1
end FL

noncomputable section
namespace FL
open PySem PySem.Spec PyProof.Rows L2 EP
variable {K : PySem.W.Frag}
/-! ### names and constants -/
@[simp] def xVar (i : Nat) : Ex := fun ρ π => match ρ[i]? with
  | some (.dat d) => some (d, π)
  | _ => none
@[simp] def xC (d : D) : Ex := fun _ π => some (d, π)
theorem ef_var (i : Nat) : EF K (tVar i) (xVar i) := by
  refine ⟨fun fr σ H ρ π R d π' e Q q => ?_⟩
  unfold xVar at e
  split at e
  · rename_i s hs
    cases e
    obtain ⟨v, ev, dv⟩ := R.slot i _ hs
    exact ⟨v, ev, q v H R (.refl _ _) dv⟩
  · cases e
/-- a list's items alone, at once: the pot too -/
theorem ef_int {i : Int} : EF K (tC (.int i)) (xC (.int i)) := ⟨fun fr σ H ρ π R d π' e Q q => by cases e; exact q _ H R (.refl _ _) (.int _)⟩
theorem ef_bool {i : Bool} : EF K (tC (.bl i)) (xC (.bool i)) := ⟨fun fr σ H ρ π R d π' e Q q => by cases e; exact q _ H R (.refl _ _) (.bl _)⟩
theorem ef_str {i : Str} : EF K (tC (.str i)) (xC (.str i)) := ⟨fun fr σ H ρ π R d π' e Q q => by cases e; exact q _ H R (.refl _ _) (.str _)⟩
theorem ef_non : EF K (tC .non) (xC .none) := ⟨fun fr σ H ρ π R d π' e Q q => by cases e; exact q _ H R (.refl _ _) .non⟩
/-- a list that is read where it stands -/
@[simp] def xBo (i : Nat) : Ex := fun ρ π => match ρ[i]? with
  | some (.dat d) => some (d, π)
  | some (.arg ds) => some (.list ds, π)
  | some (.own ds) => some (.list ds, π)
  | _ => none
theorem bf_var (i : Nat) : BF K (tVar i) (xBo i) := by
  refine ⟨fun fr σ H ρ π R d π' e Q q => ?_⟩
  unfold xBo at e
  split at e
  · rename_i s hs
    cases e
    obtain ⟨v, ev, dv⟩ := R.slot i _ hs
    exact ⟨v, ev, q v H R (.refl _ _) (.inl dv)⟩
  · rename_i s hs
    cases e
    obtain ⟨a, xs, ev, ea, nu, dv⟩ := R.slot i _ hs
    exact ⟨_, ev, q _ H R (.refl _ _) (.inr ⟨a, xs, s, rfl, fun z => nu (.inl z), rfl, ea, dv⟩)⟩
  · rename_i s hs
    cases e
    obtain ⟨a, xs, ev, ea, dv⟩ := R.slot i _ hs
    exact ⟨_, ev, q _ H R (.refl _ _) (.inr ⟨a, xs, s, rfl, fun z => (R.pt a z).2.1 ⟨i, _, hs, rfl, ev⟩, rfl, ea, dv⟩)⟩
  · cases e
/-! ### operations by values -/
abbrev F2 := D → D → Option D
structure OF (K : PySem.W.Frag) (r : R2) (F : F2) : Prop where
  go : ∀ (fr : Fm) (H : Hp) (S : Addr → Prop), (∀ a, S a → H a ≠ none) → ∀ x y dx dy, Db K fr H S x dx → Db K fr H S y dy → ∀ d, F dx dy = some d →
    ∀ Q : VK, (∀ v H', Kp H H' → Dv K H' S v d → Q v H') → r x y H Q
structure ON (K : PySem.W.Frag) (r : R2) (F : F2) : Prop where
  go : ∀ (fr : Fm) (H : Hp) (S : Addr → Prop), (∀ a, S a → H a ≠ none) → ∀ x y dx dy, Db K fr H S x dx → Db K fr H S y dy → ∀ d, F dx dy = some d →
    ∀ Q : VK, (∀ v H', Kp H H' → Dn K H H' S v d → Q v H') → r x y H Q
theorem ON.of {r : R2} {F : F2} (h : ON K r F) : OF K r F := ⟨fun fr H S al x y dx dy hx hy d e Q q => h.go fr H S al x y dx dy hx hy d e Q fun v H' k n => q v H' k n.dv⟩
@[simp] def xOp (F : F2) (a b : Ex) : Ex := fun ρ π => (a ρ π).bind fun x => (b ρ x.2).bind fun y => (F x.1 y.1).map fun d => (d, y.2)
theorem xOp_some {F : F2} {a b : Ex} {ρ : En} {π : Pot} {d : D} {π' : Pot} (h : xOp F a b ρ π = some (d, π')) : ∃ dx π1 dy, a ρ π = some (dx, π1) ∧ b ρ π1 = some (dy, π') ∧ F dx dy = some d := by
  unfold xOp at h
  cases ea : a ρ π with
  | none => rw [ea] at h; cases h
  | some x =>
    rw [ea] at h
    simp only [Option.bind_some] at h
    cases eb : b ρ x.2 with
    | none => rw [eb] at h; cases h
    | some y =>
      rw [eb] at h
      simp only [Option.bind_some] at h
      cases ed : F x.1 y.1 with
      | none => rw [ed] at h; cases h
      | some z =>
        rw [ed] at h
        cases h
        exact ⟨x.1, x.2, y.1, rfl, eb, ed⟩
theorem Rel.sA {fr : Fm} {σ : L2.St} {H : Hp} {ρ : En} {π : Pot} (r : Rel K fr σ H ρ π) : ∀ a, (wd fr σ ρ H).S a → H a ≠ none := fun a h => r.sSome h
theorem Rel.back {fr : Fm} {σ : L2.St} {H H' : Hp} {ρ : En} {π : Pot} (r : Rel K fr σ H' ρ π) (c : ChgP fr H H') {p : Addr} (h : H' p = none) : H p = none := by
  cases e : H p with
  | none => rfl
  | some o =>
    by_cases z : fr.pt = some p
    · rw [(r.pt p z).2.2] at h; cases h
    · rw [c p o z e] at h; cases h
theorem ef_op {r : R2} {F : F2} {ta tb : TE} {fa fb : Ex} (hF : OF K r F) (ha : BF K ta fa) (hb : BF K tb fb) : EF K (tOp r ta tb) (xOp F fa fb) := by
  refine ⟨fun fr σ H ρ π R d π' e Q q => ?_⟩
  obtain ⟨dx, π1, dy, ea, eb, ed⟩ := xOp_some e
  refine ha.go fr σ H ρ π R dx π1 ea _ fun x H1 R1 c1 bx => ?_
  refine hb.go fr σ H1 ρ π1 R1 dy π' eb _ fun y H2 R2 c2 hy => ?_
  exact hF.go fr H2 _ R2.sA x y dx dy (bx.chg R1 c2) hy d ed Q fun v H3 k3 dv => q v H3 (R2.kp k3) (c1.trans (c2.trans (.of k3))) dv
theorem nf_op {r : R2} {F : F2} {ta tb : TE} {fa fb : Ex} (hF : ON K r F) (ha : BF K ta fa) (hb : BF K tb fb) : NF K (tOp r ta tb) (xOp F fa fb) := by
  refine ⟨fun fr σ H ρ π R d π' e Q q => ?_⟩
  obtain ⟨dx, π1, dy, ea, eb, ed⟩ := xOp_some e
  refine ha.go fr σ H ρ π R dx π1 ea _ fun x H1 R1 c1 bx => ?_
  refine hb.go fr σ H1 ρ π1 R1 dy π' eb _ fun y H2 R2 c2 hy => ?_
  refine hF.go fr H2 _ R2.sA x y dx dy (bx.chg R1 c2) hy d ed Q fun v H3 k3 dv => q v H3 (R2.kp k3) (c1.trans (c2.trans (.of k3))) ?_
  obtain ⟨p, xs, ds, e1, e2, h0, z⟩ := dv
  exact ⟨p, xs, ds, e1, e2, R1.back c1 (R2.back c2 h0), z⟩
@[simp] def xUn (F : D → Option D) (a : Ex) : Ex := fun ρ π => (a ρ π).bind fun x => (F x.1).map fun d => (d, x.2)
theorem xUn_some {F : D → Option D} {a : Ex} {ρ : En} {π : Pot} {d : D} {π' : Pot} (h : xUn F a ρ π = some (d, π')) : ∃ dx, a ρ π = some (dx, π') ∧ F dx = some d := by
  unfold xUn at h
  cases ea : a ρ π with
  | none => rw [ea] at h; cases h
  | some x =>
    rw [ea] at h
    simp only [Option.bind_some] at h
    cases ed : F x.1 with
    | none => rw [ed] at h; cases h
    | some z => rw [ed] at h; cases h; exact ⟨x.1, rfl, ed⟩
@[simp] def negF : D → Option D
  | .int i => some (.int (-i))
  | _ => none
theorem ef_neg {ta : TE} {fa : Ex} (ha : BF K ta fa) : EF K (tUn (rU fun i => .int (-i)) ta) (xUn negF fa) := by
  refine ⟨fun fr σ H ρ π R d π' e Q q => ?_⟩
  obtain ⟨dx, ea, ed⟩ := xUn_some e
  refine ha.go fr σ H ρ π R dx π' ea _ fun x H1 R1 c1 bx => ?_
  unfold negF at ed
  split at ed
  · cases ed
    obtain rfl := bx.int
    exact ⟨_, rfl, q _ H1 R1 c1 (.int _)⟩
  · cases ed
/-! #### numbers -/
@[simp] def isI : D → Option Int
  | .int i => some i
  | _ => none
theorem isI_some {d : D} {i : Int} (h : isI d = some i) : d = .int i := by unfold isI at h; split at h <;> cases h; rfl
@[simp] def intF (C : Int → Int → Bool) (g : Int → Int → D) : F2 := fun x y => match x, y with
  | .int i, .int j => if C i j = true then some (g i j) else none
  | _, _ => none
theorem intF_some {C : Int → Int → Bool} {g : Int → Int → D} {x y d : D} (h : intF C g x y = some d) : ∃ i j, x = .int i ∧ y = .int j ∧ C i j = true ∧ d = g i j := by
  unfold intF at h
  split at h
  · split at h
    · rename_i i j c
      cases h
      exact ⟨i, j, rfl, rfl, c, rfl⟩
    · cases h
  · cases h
theorem of_int {CC : Int → Int → Prop} {C : Int → Int → Bool} {g : Int → Int → Int} {g' : Int → Int → V} (h : ∀ i j, C i j = true → CC i j) (hg : ∀ i j, C i j = true → g' i j = .int (g i j)) : OF K (rI CC g') (intF C fun i j => .int (g i j)) :=
  ⟨fun fr H S al x y dx dy hx hy d e Q q => by
    obtain ⟨i, j, rfl, rfl, c, rfl⟩ := intF_some e
    obtain rfl := hx.int
    obtain rfl := hy.int
    exact ⟨i, j, rfl, rfl, h i j c, by rw [hg i j c]; exact q _ H (Kp.refl _) (.int _)⟩⟩
@[simp] def fTrue : Int → Int → Bool := fun _ _ => true
@[simp] def subF : F2 := intF fTrue fun i j => .int (i - j)
theorem of_sub : OF K (rI0 fun i j => .int (i - j)) subF := ⟨fun fr H S al x y dx dy hx hy d e Q q => by
    obtain ⟨i, j, rfl, rfl, c, rfl⟩ := intF_some e
    obtain rfl := hx.int
    obtain rfl := hy.int
    exact ⟨i, j, rfl, rfl, q _ H (Kp.refl _) (.int _)⟩⟩
@[simp] def cmpF (p : Int → Int → Bool) : F2 := intF fTrue fun i j => .bool (p i j)
theorem of_cmp {p : Int → Int → Bool} : OF K (rI0 fun i j => .bl (p i j)) (cmpF p) := ⟨fun fr H S al x y dx dy hx hy d e Q q => by
    obtain ⟨i, j, rfl, rfl, c, rfl⟩ := intF_some e
    obtain rfl := hx.int
    obtain rfl := hy.int
    exact ⟨i, j, rfl, rfl, q _ H (Kp.refl _) (.bl _)⟩⟩
end FL

noncomputable section
namespace FL
open PySem PySem.Spec PyProof.Rows L2 EP
variable {K : PySem.W.Frag}
/-! ### more operations -/
theorem dvA_nil {H : Hp} {S : Addr → Prop} {xs : List V} {ds : List D} (h : DvA K H S xs ds) : xs = [] ↔ ds = [] := by cases h <;> simp
theorem upN {H : Hp} {p : Addr} {o : HO} (h : H p = none) : Kp H (upd H p o) := Kp.new h
theorem dnNew {H : Hp} {S : Addr → Prop} {p : Addr} {xs : List V} {ds : List D} (al : ∀ a, S a → H a ≠ none) (h : H p = none) (r : DvA K H S xs ds) : Dn K H (upd H p (.lst xs)) S (.ref p) (.list ds) := by
  refine ⟨p, xs, ds, rfl, rfl, h, upd_same, fun z => al p z h, r.up (upN h) fun a z => ?_⟩
  rcases z with z | z
  · exact .inl z
  · exact .inr (by rw [z]; exact h)
theorem dvTup {H : Hp} {S : Addr → Prop} {p : Addr} {xs : List V} {ds : List D} (al : ∀ a, S a → H a ≠ none) (h : H p = none) (r : DvA K H S xs ds) : Dv K (upd H p (.tup xs)) S (.ref p) (.tuple ds) :=
  .tup (.inl ⟨.inl upd_same, fun z => al p z h⟩) (r.up (upN h) fun a z => .inl z)
def catF : F2 := fun x y => match x, y with
  | .list a, .list b => if a.length + b.length ≤ 100000 then some (.list (a ++ b)) else none
  | _, _ => none
theorem on_cat : ON K rCat catF := ⟨fun fr H S al x y dx dy hx hy d e Q q => by
  unfold catF at e
  split at e
  · rename_i a b
    split at e
    · rename_i c
      cases e
      obtain ⟨p, xs, rfl, ep, rp⟩ := hx.list
      obtain ⟨r, ys, rfl, er, rr⟩ := hy.list
      refine ⟨p, r, xs, ys, rfl, rfl, ep, er, ?_, fun l hl => q _ _ (upN hl) (dnNew al hl (rp.append rr))⟩
      rw [rp.length, rr.length]
      exact szOk c
    · cases e
  · cases e⟩
@[simp] def addF : F2 := fun x y => match x, y with
  | .int i, .int j => some (.int (i + j))
  | .list a, .list b => if a.length + b.length ≤ 100000 then some (.list (a ++ b)) else none
  | .tuple a, .tuple b => if a.length + b.length ≤ 100000 then some (.tuple (a ++ b)) else none
  | .str a, .str b => if a.length + b.length ≤ 100000 then some (.str (a ++ b)) else none
  | _, _ => none
def rStrCat : R2 := fun x y H Q => ∃ i j, x = .str i ∧ y = .str j ∧ i.length + j.length ≤ sizeLine ∧ Q (.str (i ++ j)) H
def rAddA (K : PySem.W.Frag) : R2 := fun x y H Q => (rI0 fun i j => .int (i + j)) x y H Q ∨ rCat x y H Q ∨ rCatA K x y H Q ∨ rStrCat x y H Q
theorem op_addA {X : Cx} : OpR X (binaryOp .Add) (rAddA X.K) := op_add.or (op_cat.or (op_catA.or op_add_str))
theorem of_addA : OF K (rAddA K) addF := ⟨fun fr H S al x y dx dy hx hy d e Q q => by
  unfold addF at e
  split at e
  · cases e
    obtain rfl := hx.int
    obtain rfl := hy.int
    exact .inl ⟨_, _, rfl, rfl, q _ H (Kp.refl _) (.int _)⟩
  · rename_i a b
    exact .inr (.inl (on_cat.of.go fr H S al x y _ _ hx hy d (by unfold catF; exact e) Q q))
  · rename_i a b
    split at e
    · rename_i c
      cases e
      obtain ⟨p, xs, rfl, ep, rp⟩ := hx.tuple
      obtain ⟨r, ys, rfl, er, rr⟩ := hy.tuple
      refine .inr (.inr (.inl ⟨p, r, xs, ys, rfl, rfl, ep.sq, er.sq, ?_, fun z => ?_, fun _ z => ?_, fun _ _ l hl => q _ _ (upN hl) (dvTup al hl (rp.append rr))⟩))
      · rw [rp.length, rr.length]; exact szOk c
      · have := (dvA_nil rp).mp z
        subst this
        exact q _ H (Kp.refl _) (.tup er rr)
      · have := (dvA_nil rr).mp z
        subst this
        rw [List.append_nil] at q
        exact q _ H (Kp.refl _) (.tup ep rp)
    · cases e
  · split at e
    · rename_i c
      cases e
      obtain rfl := hx.str
      obtain rfl := hy.str
      exact .inr (.inr (.inr ⟨_, _, rfl, rfl, szOk c, q _ H (Kp.refl _) (.str _)⟩))
    · cases e
  · cases e⟩
theorem on_addA : ON K (rAddA K) catF := ⟨fun fr H S al x y dx dy hx hy d e Q q => .inr (.inl (on_cat.go fr H S al x y dx dy hx hy d e Q q))⟩
def mulOk (i j : Int) : Bool := cdec (i.natAbs.log2 + j.natAbs.log2 < 1000000)
theorem mulOk_of {i j : Int} {a b : Nat} (ha : i.natAbs < 2 ^ a) (hb : j.natAbs < 2 ^ b) (h0 : 0 < a := by decide) (h1 : 0 < b := by decide) (h : a + b ≤ 1000000 := by decide) : mulOk i j = true := by
  have z : i.natAbs.log2 + j.natAbs.log2 < 1000000 := wide_mul ha hb h0 h1 h
  exact cdec_of z
def repF : F2 := fun x y => match x, y with
  | .list a, .int k => if k ≤ 100000 ∧ -100000 ≤ k ∧ a.length * k.toNat ≤ 100000 then some (.list (List.replicate k.toNat a).flatten) else none
  | _, _ => none
theorem dvA_rep {H : Hp} {S : Addr → Prop} {xs : List V} {ds : List D} (r : DvA K H S xs ds) : ∀ n, DvA K H S (List.replicate n xs).flatten (List.replicate n ds).flatten
  | 0 => .nil
  | n + 1 => by
    rw [List.replicate_succ, List.replicate_succ, List.flatten_cons, List.flatten_cons]
    exact r.append (dvA_rep r n)
theorem on_rep : ON K rRep repF := ⟨fun fr H S al x y dx dy hx hy d e Q q => by
  unfold repF at e
  split at e
  · rename_i a k
    split at e
    · rename_i c
      cases e
      obtain ⟨p, xs, rfl, ep, rp⟩ := hx.list
      obtain rfl := hy.int
      refine ⟨p, k, xs, rfl, rfl, ep, by omega, by omega, ?_, fun l hl => q _ _ (upN hl) (dnNew al hl (dvA_rep rp _))⟩
      rw [rp.length]; exact szOk c.2.2
    · cases e
  · cases e⟩
def mulF : F2 := fun x y => match x, y with
  | .int i, .int j => if mulOk i j = true then some (.int (i * j)) else none
  | .list a, .int k => if k ≤ 100000 ∧ -100000 ≤ k ∧ a.length * k.toNat ≤ 100000 then some (.list (List.replicate k.toNat a).flatten) else none
  | .tuple a, .int k => if a ≠ [] ∧ 2 ≤ k ∧ k ≤ 1000 ∧ a.length ≤ 1000 then some (.tuple (List.replicate k.toNat a).flatten) else none
  | _, _ => none
def rMulA (K : PySem.W.Frag) : R2 := fun x y H Q => (rI CMulW fun i j => .int (i * j)) x y H Q ∨ rRep x y H Q ∨ rRepT K x y H Q
theorem op_mulA {X : Cx} : OpR X (binaryOp .Mult) (rMulA X.K) := op_mulW.or (op_rep.or op_repT)
theorem of_mulA : OF K (rMulA K) mulF := ⟨fun fr H S al x y dx dy hx hy d e Q q => by
  unfold mulF at e
  split at e
  · split at e
    · rename_i i j c
      cases e
      obtain rfl := hx.int
      obtain rfl := hy.int
      have c2 : i.natAbs.log2 + j.natAbs.log2 < 1000000 := of_cdec c
      exact .inl ⟨_, _, rfl, rfl, c2, q _ H (Kp.refl _) (.int _)⟩
    · cases e
  · exact .inr (.inl (on_rep.of.go fr H S al x y _ _ hx hy d (by unfold repF; exact e) Q q))
  · split at e
    · rename_i c
      cases e
      obtain ⟨p, xs, rfl, ep, rp⟩ := hx.tuple
      obtain rfl := hy.int
      refine .inr (.inr ⟨p, _, xs, rfl, rfl, ep.sq, fun z => c.1 ((dvA_nil rp).mp z), c.2.1, c.2.2.1, by rw [rp.length]; exact c.2.2.2, fun l hl => q _ _ (upN hl) (dvTup al hl (dvA_rep rp _))⟩)
    · cases e
  · cases e⟩
theorem on_mulA : ON K (rMulA K) repF := ⟨fun fr H S al x y dx dy hx hy d e Q q => .inr (.inl (on_rep.go fr H S al x y dx dy hx hy d e Q q))⟩
/-- a divisor: not 0, of fewer than 7,990 bits -/
def divOk (_ j : Int) : Bool := cdec (j ≠ 0 ∧ j.natAbs.log2 < 7990)
@[simp] def qInt (i j : Int) : Int := if 0 < j then i / j else i.fdiv j
@[simp] def rInt (i j : Int) : Int := if 0 < j then i % j else i.fmod j
theorem divOk_of {i j : Int} (h : j ≠ 0) (b : j.natAbs < 2 ^ 64) : divOk i j = true := by
  unfold divOk
  refine cdec_of ⟨h, ?_⟩
  have := log2Lt (show 0 < 64 by decide) b
  omega
@[simp] def fdivF : F2 := intF divOk fun i j => .int (qInt i j)
@[simp] def modF : F2 := intF divOk fun i j => .int (rInt i j)
theorem of_fdiv : OF K (rI CDivX fun i j => .int (i.fdiv j)) fdivF := of_int (fun i j h => by
    unfold divOk at h
    have h := of_cdec h
    refine ⟨h.1, ?_⟩
    have h2 : j.natAbs.log2 < 7990 := h.2
    have h3 : j.natAbs ≠ 0 := by have := h.1; omega
    have := (Nat.log2_lt h3).mp (show j.natAbs.log2 < 8000 by omega)
    exact this) (fun i j h => by
    unfold qInt
    split
    · rw [Int.fdiv_eq_ediv_of_nonneg i (by omega)]
    · rfl)
theorem of_mod : OF K (rI (fun _ j => j ≠ 0) fun i j => .int (i.fmod j)) modF := of_int (fun i j h => by
    unfold divOk at h
    exact (of_cdec h).1) (fun i j h => by
    unfold rInt
    split
    · rw [Int.fmod_eq_emod_of_nonneg i (by omega)]
    · rfl)
def powOk (i j : Int) : Bool := cdec (0 ≤ j ∧ (Builtin.Int.intBits i : Int) * j ≤ 134217728)
def powF : F2 := intF powOk fun i j => .int (i ^ j.toNat)
theorem of_pow : OF K (rI CPowX fun i j => .int (i ^ j.toNat)) powF := of_int (fun i j h => by
    exact of_cdec h) (fun i j h => rfl)
/-! #### equality -/
def rEqA (K : PySem.W.Frag) : R2 := fun x y H Q => rEqD K x y H Q ∨ rEq x y H Q
def rNeA (K : PySem.W.Frag) : R2 := fun x y H Q => rNeD K x y H Q ∨ rNe x y H Q
theorem op_eqA {X : Cx} (hu : X.A.units + 64 < cLine) : OpR X (compareOp .Eq) (rEqA X.K) := (op_eqD hu).or op_eq
theorem op_neA {X : Cx} (hu : X.A.units + 64 < cLine) : OpR X (compareOp .NotEq) (rNeA X.K) := (op_neD hu).or op_ne
def eqF (neg : Bool) : F2 := fun x y => match x, y with
  | .str a, .str b => some (.bool (if neg then !decide (a = b) else decide (a = b)))
  | x, y => if SeqAt.shaped x = true ∧ SeqAt.shaped y = true then some (.bool (if neg then !PyData.eqv x y else PyData.eqv x y)) else none
theorem strV {a b : Str} : decide (V.str a = V.str b) = decide (a = b) := by
  by_cases h : a = b
  · subst h; simp
  · rw [decide_eq_false h]; exact decide_eq_false fun z => h (by cases z; rfl)
theorem of_eq : OF K (rEqA K) (eqF false) := ⟨fun fr H S al x y dx dy hx hy d e Q q => by
  unfold eqF at e
  split at e
  · cases e
    obtain rfl := hx.str
    obtain rfl := hy.str
    refine .inr ⟨rfl, ?_⟩
    rw [strV]
    exact q _ H (Kp.refl _) (.bl _)
  · split at e
    · rename_i c
      cases e
      exact .inl ⟨_, _, hx.dp (shaped_lay c.1), hy.dp (shaped_lay c.2), c.1, c.2, q _ H (Kp.refl _) (.bl _)⟩
    · cases e⟩
theorem of_ne : OF K (rNeA K) (eqF true) := ⟨fun fr H S al x y dx dy hx hy d e Q q => by
  unfold eqF at e
  split at e
  · cases e
    obtain rfl := hx.str
    obtain rfl := hy.str
    refine .inr ⟨rfl, ?_⟩
    rw [strV]
    exact q _ H (Kp.refl _) (.bl _)
  · split at e
    · rename_i c
      cases e
      exact .inl ⟨_, _, hx.dp (shaped_lay c.1), hy.dp (shaped_lay c.2), c.1, c.2, q _ H (Kp.refl _) (.bl _)⟩
    · cases e⟩
@[simp] def isNoneD : D → Bool
  | .none => true
  | _ => false
@[simp] def isNF (neg : Bool) : F2 := fun x y => match y with
  | .none => some (.bool (if neg then !isNoneD x else isNoneD x))
  | _ => none
theorem Db.isNon {fr : Fm} {H : Hp} {S : Addr → Prop} {v : V} {d : D} (h : Db K fr H S v d) : decide (v = .non) = isNoneD d := by
  rcases h with h | ⟨a, xs, ds, rfl, _, rfl, q, z⟩
  · cases h <;> first | rfl | exact decide_eq_false (fun z => by cases z)
  · exact decide_eq_false (fun z => by cases z)
theorem of_isN : OF K (fun x y H Q => y = .non ∧ Q (.bl (decide (x = .non))) H) (isNF false) := ⟨fun fr H S al x y dx dy hx hy d e Q q => by
  unfold isNF at e
  split at e
  · cases e
    refine ⟨hy.non, ?_⟩
    rw [hx.isNon]
    exact q _ H (Kp.refl _) (.bl _)
  · cases e⟩
theorem of_notN : OF K (fun x y H Q => y = .non ∧ Q (.bl (!decide (x = .non))) H) (isNF true) := ⟨fun fr H S al x y dx dy hx hy d e Q q => by
  unfold isNF at e
  split at e
  · cases e
    refine ⟨hy.non, ?_⟩
    rw [hx.isNon]
    exact q _ H (Kp.refl _) (.bl _)
  · cases e⟩
/-! #### x in xs -/
def flatD : D → Bool
  | .none => true
  | .bool _ => true
  | .int _ => true
  | .str _ => true
  | _ => false
theorem Db.flatEq {fr : Fm} {H : Hp} {S : Addr → Prop} {v : V} {d : D} (h : Db K fr H S v d) (f : flatD d = true) : flatV v = true ∧ ∀ w e, Dv K H S w e → flatD e = true → eqV w v = PyData.eqv e d := by
  cases d with
  | none => obtain rfl := h.non; refine ⟨rfl, fun w e hw he => ?_⟩; cases hw <;> first | (simp [eqV, PyData.eqv]) | cases he
  | bool b => obtain rfl := h.bool; refine ⟨rfl, fun w e hw he => ?_⟩; cases hw <;> first | (simp [eqV, PyData.eqv]) | cases he
  | int b => obtain rfl := h.int; refine ⟨rfl, fun w e hw he => ?_⟩; cases hw <;> first | (simp [eqV, PyData.eqv]) | cases he
  | str b => obtain rfl := h.str; refine ⟨rfl, fun w e hw he => ?_⟩; cases hw <;> first | (simp [eqV, PyData.eqv]) | cases he
  | list _ => cases f
  | tuple _ => cases f
  | dict _ => cases f
end FL

noncomputable section
namespace FL
open PySem PySem.Spec PyProof.Rows L2 EP
variable {K : PySem.W.Frag}
/-! ### a place of a list, tuple, text; parts -/
@[simp] def ixF : F2 := fun x y => match x, y with
  | .list ds, .int i => atI ds i
  | .tuple ds, .int i => atI ds i
  | .str z, .int i => if z.length ≤ 100000 then (atI z.cps.toList i).map fun c => .str ⟨#[c]⟩ else none
  | _, _ => none
theorem atI_dv {H : Hp} {S : Addr → Prop} {xs : List V} {ds : List D} {i : Int} {d : D} (r : DvA K H S xs ds) (h : atI ds i = some d) : ∃ v, atI xs i = some v ∧ Dv K H S v d := by
  unfold atI at h ⊢
  rw [r.length]
  cases e : ixN ds.length i with
  | none => rw [e] at h; cases h
  | some j =>
    rw [e] at h
    exact r.get h
theorem of_ix : OF K (rIx K) ixF := ⟨fun fr H S al x y dx dy hx hy d e Q q => by
  unfold ixF at e
  split at e
  · obtain rfl := hy.int
    obtain ⟨p, xs, rfl, ep, rp⟩ := hx.list
    obtain ⟨v, ev, dv⟩ := atI_dv rp e
    exact .inl ⟨p, xs, _, v, rfl, rfl, sqL ep, ev, q v H (Kp.refl _) dv⟩
  · obtain rfl := hy.int
    obtain ⟨p, xs, rfl, ep, rp⟩ := hx.tuple
    obtain ⟨v, ev, dv⟩ := atI_dv rp e
    exact .inr (.inl ⟨p, xs, _, v, rfl, rfl, ep.sq, ev, q v H (Kp.refl _) dv⟩)
  · obtain rfl := hy.int
    obtain rfl := hx.str
    split at e
    · rename_i z i c
      cases eq : atI z.cps.toList i with
      | none => rw [eq] at e; cases e
      | some w =>
        rw [eq] at e
        cases e
        exact .inr (.inr ⟨z, i, w, rfl, rfl, szOk c, eq, q _ H (Kp.refl _) (.str _)⟩)
    · cases e
  · cases e⟩
abbrev PxF := En → Pot → Option (Option Int × Pot)
structure PF (K : PySem.W.Frag) (t : TO) (f : PxF) : Prop where
  go : ∀ (fr : Fm) (σ : L2.St) (H : Hp) (ρ : En) (π : Pot), Rel K fr σ H ρ π → ∀ d π', f ρ π = some (d, π') → ∀ Q : Option Int → Hp → Prop,
    (∀ H', Rel K fr σ H' ρ π' → ChgP fr H H' → Q d H') → t σ H Q
@[simp] def xPo (f : Ex) : PxF := fun ρ π => (f ρ π).bind fun x => (isI x.1).map fun i => (some i, x.2)
@[simp] def xPn : PxF := fun _ π => some (none, π)
theorem pf_none : PF K tNoPart xPn := ⟨fun fr σ H ρ π R d π' e Q q => by cases e; exact q H R (.refl _ _)⟩
theorem pf_some {t : TE} {f : Ex} (h : BF K t f) : PF K (tPart t) (xPo f) := by
  refine ⟨fun fr σ H ρ π R d π' e Q q => ?_⟩
  unfold xPo at e
  cases ea : f ρ π with
  | none => rw [ea] at e; cases e
  | some x =>
    rw [ea] at e
    simp only [Option.bind_some] at e
    cases ei : isI x.1 with
    | none => rw [ei] at e; cases e
    | some i =>
      rw [ei] at e
      cases e
      refine h.go fr σ H ρ π R x.1 x.2 ea _ fun v H' R' c b => ?_
      rw [isI_some ei] at b
      obtain rfl := b.int
      exact ⟨i, rfl, q H' R' c⟩
@[simp] def cutD {α : Type} (xs : List α) (lo hi : Option Int) : List α := (xs.drop (HT.sIx xs.length 0 lo)).take (HT.sIx xs.length xs.length hi - HT.sIx xs.length 0 lo)
theorem DvA.cut {H : Hp} {S : Addr → Prop} {xs : List V} {ds : List D} (r : DvA K H S xs ds) (lo hi : Option Int) : DvA K H S (cutV xs lo hi) (cutD ds lo hi) := by
  unfold cutV cutD
  rw [r.length]
  exact (r.drop _).take _
abbrev SlF := D → Option Int → Option Int → Option D
structure SF3 (K : PySem.W.Frag) (r : V → Option Int → Option Int → Hp → VK → Prop) (F : SlF) : Prop where
  go : ∀ (fr : Fm) (H : Hp) (S : Addr → Prop), (∀ a, S a → H a ≠ none) → ∀ x dx lo hi, Db K fr H S x dx → ∀ d, F dx lo hi = some d →
    ∀ Q : VK, (∀ v H', Kp H H' → Dv K H' S v d → Q v H') → r x lo hi H Q
structure SN3 (K : PySem.W.Frag) (r : V → Option Int → Option Int → Hp → VK → Prop) (F : SlF) : Prop where
  go : ∀ (fr : Fm) (H : Hp) (S : Addr → Prop), (∀ a, S a → H a ≠ none) → ∀ x dx lo hi, Db K fr H S x dx → ∀ d, F dx lo hi = some d →
    ∀ Q : VK, (∀ v H', Kp H H' → Dn K H H' S v d → Q v H') → r x lo hi H Q
@[simp] def cutL : SlF := fun x lo hi => match x with
  | .list ds => some (.list (cutD ds lo hi))
  | _ => none
@[simp] def cutT : SlF := fun x lo hi => match x with
  | .tuple ds => some (.tuple (cutD ds lo hi))
  | _ => none
theorem cut_whole {α : Type} {xs : List α} {lo hi : Option Int} (h : HT.sIx xs.length 0 lo = 0 ∧ HT.sIx xs.length xs.length hi = xs.length) : cutD xs lo hi = xs := by
  unfold cutD
  rw [h.1, h.2, List.drop_zero, Nat.sub_zero, List.take_length]
theorem sn_list : SN3 K (rSlL K) cutL := ⟨fun fr H S al x dx lo hi hx d e Q q => by
  unfold cutL at e
  split at e
  · cases e
    obtain ⟨p, xs, rfl, ep, rp⟩ := hx.list
    exact ⟨p, xs, rfl, sqL ep, fun l hl => q _ _ (upN hl) (dnNew al hl (rp.cut lo hi))⟩
  · cases e⟩
theorem sf_tup : SF3 K (rSlA K) cutT := ⟨fun fr H S al x dx lo hi hx d e Q q => by
  unfold cutT at e
  split at e
  · rename_i ds
    cases e
    obtain ⟨p, xs, rfl, ep, rp⟩ := hx.tuple
    refine ⟨p, xs, rfl, ep.sq, fun c => ?_, fun c l hl => q _ _ (upN hl) (dvTup al hl (rp.cut lo hi))⟩
    rw [rp.length] at c
    rw [cut_whole c] at q
    exact q _ H (Kp.refl _) (.tup ep rp)
  · cases e⟩
theorem SN3.of {r : V → Option Int → Option Int → Hp → VK → Prop} {F : SlF} (h : SN3 K r F) : SF3 K r F := ⟨fun fr H S al x dx lo hi hx d e Q q => h.go fr H S al x dx lo hi hx d e Q fun v H' k n => q v H' k n.dv⟩
@[simp] def xSl (F : SlF) (a : Ex) (l h : PxF) : Ex := fun ρ π => (a ρ π).bind fun x => (l ρ x.2).bind fun y => (h ρ y.2).bind fun z => (F x.1 y.1 z.1).map fun d => (d, z.2)
theorem xSl_some {F : SlF} {a : Ex} {l h : PxF} {ρ : En} {π : Pot} {d : D} {π' : Pot} (e : xSl F a l h ρ π = some (d, π')) : ∃ dx π1 lo π2 hi, a ρ π = some (dx, π1) ∧ l ρ π1 = some (lo, π2) ∧ h ρ π2 = some (hi, π') ∧ F dx lo hi = some d := by
  unfold xSl at e
  cases ea : a ρ π with
  | none => rw [ea] at e; cases e
  | some x =>
    rw [ea] at e
    simp only [Option.bind_some] at e
    cases eb : l ρ x.2 with
    | none => rw [eb] at e; cases e
    | some y =>
      rw [eb] at e
      simp only [Option.bind_some] at e
      cases ec : h ρ y.2 with
      | none => rw [ec] at e; cases e
      | some z =>
        rw [ec] at e
        simp only [Option.bind_some] at e
        cases ed : F x.1 y.1 z.1 with
        | none => rw [ed] at e; cases e
        | some w => rw [ed] at e; cases e; exact ⟨x.1, x.2, y.1, y.2, z.1, rfl, eb, ec, ed⟩
theorem ef_sl {r : V → Option Int → Option Int → Hp → VK → Prop} {F : SlF} {ta : TE} {tl th : TO} {fa : Ex} {fl fh : PxF} (hF : SF3 K r F) (ha : BF K ta fa) (hl : PF K tl fl) (hh : PF K th fh) : EF K (tSl r ta tl th) (xSl F fa fl fh) := by
  refine ⟨fun fr σ H ρ π R d π' e Q q => ?_⟩
  obtain ⟨dx, π1, lo, π2, hi, ea, el, eh, ed⟩ := xSl_some e
  refine ha.go fr σ H ρ π R dx π1 ea _ fun x H1 R1 c1 bx => ?_
  refine hl.go fr σ H1 ρ π1 R1 lo π2 el _ fun H2 R2 c2 => ?_
  refine hh.go fr σ H2 ρ π2 R2 hi π' eh _ fun H3 R3 c3 => ?_
  exact hF.go fr H3 _ R3.sA x dx lo hi ((bx.chg R1 c2).chg R2 c3) d ed Q fun v H4 k4 dv => q v H4 (R3.kp k4) (c1.trans (c2.trans (c3.trans (.of k4)))) dv
theorem Dn.back {H0 H1 H : Hp} {S : Addr → Prop} {v : V} {d : D} (b : ∀ p, H1 p = none → H0 p = none) (h : Dn K H1 H S v d) : Dn K H0 H S v d := by
  obtain ⟨p, xs, ds, e1, e2, h0, z⟩ := h
  exact ⟨p, xs, ds, e1, e2, b p h0, z⟩
theorem nf_sl {r : V → Option Int → Option Int → Hp → VK → Prop} {F : SlF} {ta : TE} {tl th : TO} {fa : Ex} {fl fh : PxF} (hF : SN3 K r F) (ha : BF K ta fa) (hl : PF K tl fl) (hh : PF K th fh) : NF K (tSl r ta tl th) (xSl F fa fl fh) := by
  refine ⟨fun fr σ H ρ π R d π' e Q q => ?_⟩
  obtain ⟨dx, π1, lo, π2, hi, ea, el, eh, ed⟩ := xSl_some e
  refine ha.go fr σ H ρ π R dx π1 ea _ fun x H1 R1 c1 bx => ?_
  refine hl.go fr σ H1 ρ π1 R1 lo π2 el _ fun H2 R2 c2 => ?_
  refine hh.go fr σ H2 ρ π2 R2 hi π' eh _ fun H3 R3 c3 => ?_
  exact hF.go fr H3 _ R3.sA x dx lo hi ((bx.chg R1 c2).chg R2 c3) d ed Q fun v H4 k4 dv => q v H4 (R3.kp k4) (c1.trans (c2.trans (c3.trans (.of k4)))) (dv.back fun p h => R1.back c1 (R2.back c2 (R3.back c3 h)))
/-! ### tests -/
abbrev Tx := En → Pot → Option (Bool × Pot)
structure TF (K : PySem.W.Frag) (t : TT) (f : Tx) : Prop where
  go : ∀ (fr : Fm) (σ : L2.St) (H : Hp) (ρ : En) (π : Pot), Rel K fr σ H ρ π → ∀ b π', f ρ π = some (b, π') → ∀ Q : Bool → Hp → Prop,
    (∀ H', Rel K fr σ H' ρ π' → ChgP fr H H' → Q b H') → t σ H Q
@[simp] def isB : D → Option Bool
  | .bool b => some b
  | _ => none
theorem isB_some {d : D} {i : Bool} (h : isB d = some i) : d = .bool i := by unfold isB at h; split at h <;> cases h; rfl
@[simp] def xT (f : Ex) : Tx := fun ρ π => (f ρ π).bind fun x => (isB x.1).map fun b => (b, x.2)
theorem tf_test {t : TE} {f : Ex} (h : BF K t f) : TF K (tTest t) (xT f) := by
  refine ⟨fun fr σ H ρ π R d π' e Q q => ?_⟩
  unfold xT at e
  cases ea : f ρ π with
  | none => rw [ea] at e; cases e
  | some x =>
    rw [ea] at e
    simp only [Option.bind_some] at e
    cases ei : isB x.1 with
    | none => rw [ei] at e; cases e
    | some i =>
      rw [ei] at e
      cases e
      refine h.go fr σ H ρ π R x.1 x.2 ea _ fun v H' R' c b => ?_
      rw [isB_some ei] at b
      obtain rfl := b.bool
      exact ⟨_, rfl, q H' R' c⟩
theorem tf_val {t : TE} {f : Ex} (h : BF K t f) : TF K (tB t) (xT f) := tf_test h
@[simp] def xAnd (a b : Tx) : Tx := fun ρ π => (a ρ π).bind fun x => if x.1 = true then b ρ x.2 else some (false, x.2)
@[simp] def xOr (a b : Tx) : Tx := fun ρ π => (a ρ π).bind fun x => if x.1 = true then some (true, x.2) else b ρ x.2
@[simp] def xNot (a : Tx) : Tx := fun ρ π => (a ρ π).map fun x => (!x.1, x.2)
theorem tf_and {t u : TT} {f g : Tx} (h : TF K t f) (h2 : TF K u g) : TF K (tAnd t u) (xAnd f g) := by
  refine ⟨fun fr σ H ρ π R d π' e Q q => ?_⟩
  unfold xAnd at e
  cases ea : f ρ π with
  | none => rw [ea] at e; cases e
  | some x =>
    rw [ea] at e
    simp only [Option.bind_some] at e
    refine h.go fr σ H ρ π R x.1 x.2 ea _ fun H' R' c => ?_
    by_cases z : x.1 = true
    · rw [if_pos z] at e ⊢
      exact h2.go fr σ H' ρ x.2 R' d π' e Q fun H2 R2 c2 => q H2 R2 (c.trans c2)
    · rw [if_neg z] at e ⊢
      cases e
      exact q H' R' c
theorem tf_or {t u : TT} {f g : Tx} (h : TF K t f) (h2 : TF K u g) : TF K (tOr t u) (xOr f g) := by
  refine ⟨fun fr σ H ρ π R d π' e Q q => ?_⟩
  unfold xOr at e
  cases ea : f ρ π with
  | none => rw [ea] at e; cases e
  | some x =>
    rw [ea] at e
    simp only [Option.bind_some] at e
    refine h.go fr σ H ρ π R x.1 x.2 ea _ fun H' R' c => ?_
    by_cases z : x.1 = true
    · rw [if_pos z] at e ⊢
      cases e
      exact q H' R' c
    · rw [if_neg z] at e ⊢
      exact h2.go fr σ H' ρ x.2 R' d π' e Q fun H2 R2 c2 => q H2 R2 (c.trans c2)
theorem tf_not {t : TT} {f : Tx} (h : TF K t f) : TF K (tNot t) (xNot f) := by
  refine ⟨fun fr σ H ρ π R d π' e Q q => ?_⟩
  unfold xNot at e
  cases ea : f ρ π with
  | none => rw [ea] at e; cases e
  | some x =>
    rw [ea] at e
    cases e
    exact h.go fr σ H ρ π R x.1 x.2 ea _ fun H' R' c => q H' R' c
@[simp] def xYes : Tx := fun _ π => some (true, π)
theorem tf_yes : TF K tYes xYes := ⟨fun fr σ H ρ π R d π' e Q q => by cases e; exact q H R (.refl _ _)⟩
/-- bools as values -/
@[simp] def xAndV (a b : Ex) : Ex := fun ρ π => (a ρ π).bind fun x => (isB x.1).bind fun c => if c = true then b ρ x.2 else some (.bool false, x.2)
@[simp] def xOrV (a b : Ex) : Ex := fun ρ π => (a ρ π).bind fun x => (isB x.1).bind fun c => if c = true then some (.bool true, x.2) else b ρ x.2
@[simp] def notF : D → Option D
  | .bool b => some (.bool !b)
  | _ => none
theorem ef_andV {ta tb : TE} {f g : Ex} (h : BF K ta f) (h2 : EF K tb g) : EF K (tAndV ta tb) (xAndV f g) := by
  refine ⟨fun fr σ H ρ π R d π' e Q q => ?_⟩
  unfold xAndV at e
  cases ea : f ρ π with
  | none => rw [ea] at e; cases e
  | some x =>
    rw [ea] at e
    simp only [Option.bind_some] at e
    cases ei : isB x.1 with
    | none => rw [ei] at e; cases e
    | some i =>
      rw [ei] at e
      simp only [Option.bind_some] at e
      refine h.go fr σ H ρ π R x.1 x.2 ea _ fun v H' R' c b => ?_
      rw [isB_some ei] at b
      obtain rfl := b.bool
      refine ⟨i, rfl, ?_⟩
      by_cases z : i = true
      · rw [if_pos z] at e ⊢
        exact h2.go fr σ H' ρ x.2 R' d π' e Q fun v H2 R2 c2 => q v H2 R2 (c.trans c2)
      · rw [if_neg z] at e ⊢
        cases e
        exact q _ H' R' c (.bl _)
theorem ef_orV {ta tb : TE} {f g : Ex} (h : BF K ta f) (h2 : EF K tb g) : EF K (tOrV ta tb) (xOrV f g) := by
  refine ⟨fun fr σ H ρ π R d π' e Q q => ?_⟩
  unfold xOrV at e
  cases ea : f ρ π with
  | none => rw [ea] at e; cases e
  | some x =>
    rw [ea] at e
    simp only [Option.bind_some] at e
    cases ei : isB x.1 with
    | none => rw [ei] at e; cases e
    | some i =>
      rw [ei] at e
      simp only [Option.bind_some] at e
      refine h.go fr σ H ρ π R x.1 x.2 ea _ fun v H' R' c b => ?_
      rw [isB_some ei] at b
      obtain rfl := b.bool
      refine ⟨i, rfl, ?_⟩
      by_cases z : i = true
      · rw [if_pos z] at e ⊢
        cases e
        exact q _ H' R' c (.bl _)
      · rw [if_neg z] at e ⊢
        exact h2.go fr σ H' ρ x.2 R' d π' e Q fun v H2 R2 c2 => q v H2 R2 (c.trans c2)
theorem ef_notV {ta : TE} {fa : Ex} (ha : BF K ta fa) : EF K (tNotV ta) (xUn notF fa) := by
  refine ⟨fun fr σ H ρ π R d π' e Q q => ?_⟩
  obtain ⟨dx, ea, ed⟩ := xUn_some e
  refine ha.go fr σ H ρ π R dx π' ea _ fun x H1 R1 c1 bx => ?_
  unfold notF at ed
  split at ed
  · cases ed
    obtain rfl := bx.bool
    exact ⟨_, rfl, q _ H1 R1 c1 (.bl _)⟩
  · cases ed
/-- a if t else b -/
@[simp] def xIf (c : Tx) (a b : Ex) : Ex := fun ρ π => (c ρ π).bind fun x => if x.1 = true then a ρ x.2 else b ρ x.2
theorem xIf_some {c : Tx} {a b : Ex} {ρ : En} {π : Pot} {r : D × Pot} (e : xIf c a b ρ π = some r) : ∃ k π1, c ρ π = some (k, π1) ∧ (if k = true then a ρ π1 else b ρ π1) = some r := by
  unfold xIf at e
  cases ea : c ρ π with
  | none => rw [ea] at e; cases e
  | some x => rw [ea] at e; exact ⟨x.1, x.2, rfl, e⟩
theorem ef_if {t : TT} {ta tb : TE} {c : Tx} {f g : Ex} (h : TF K t c) (h1 : EF K ta f) (h2 : EF K tb g) : EF K (tIf t ta tb) (xIf c f g) := by
  refine ⟨fun fr σ H ρ π R d π' e Q q => ?_⟩
  obtain ⟨k, π1, ek, e⟩ := xIf_some e
  refine h.go fr σ H ρ π R k π1 ek _ fun H' R' c => ?_
  by_cases z : k = true
  · rw [if_pos z] at e ⊢
    exact h1.go fr σ H' ρ π1 R' d π' e Q fun v H2 R2 c2 => q v H2 R2 (c.trans c2)
  · rw [if_neg z] at e ⊢
    exact h2.go fr σ H' ρ π1 R' d π' e Q fun v H2 R2 c2 => q v H2 R2 (c.trans c2)
theorem bf_if {t : TT} {ta tb : TE} {c : Tx} {f g : Ex} (h : TF K t c) (h1 : BF K ta f) (h2 : BF K tb g) : BF K (tIf t ta tb) (xIf c f g) := by
  refine ⟨fun fr σ H ρ π R d π' e Q q => ?_⟩
  obtain ⟨k, π1, ek, e⟩ := xIf_some e
  refine h.go fr σ H ρ π R k π1 ek _ fun H' R' c => ?_
  by_cases z : k = true
  · rw [if_pos z] at e ⊢
    exact h1.go fr σ H' ρ π1 R' d π' e Q fun v H2 R2 c2 => q v H2 R2 (c.trans c2)
  · rw [if_neg z] at e ⊢
    exact h2.go fr σ H' ρ π1 R' d π' e Q fun v H2 R2 c2 => q v H2 R2 (c.trans c2)
theorem nf_if {t : TT} {ta tb : TE} {c : Tx} {f g : Ex} (h : TF K t c) (h1 : NF K ta f) (h2 : NF K tb g) : NF K (tIf t ta tb) (xIf c f g) := by
  refine ⟨fun fr σ H ρ π R d π' e Q q => ?_⟩
  obtain ⟨k, π1, ek, e⟩ := xIf_some e
  refine h.go fr σ H ρ π R k π1 ek _ fun H' R' c => ?_
  by_cases z : k = true
  · rw [if_pos z] at e ⊢
    exact h1.go fr σ H' ρ π1 R' d π' e Q fun v H2 R2 c2 n => q v H2 R2 (c.trans c2) (n.back fun p h => R'.back c h)
  · rw [if_neg z] at e ⊢
    exact h2.go fr σ H' ρ π1 R' d π' e Q fun v H2 R2 c2 n => q v H2 R2 (c.trans c2) (n.back fun p h => R'.back c h)
/-- a op b op c -/
@[simp] def xChain (F G : F2) (a b c : Ex) : Ex := fun ρ π => (a ρ π).bind fun x => (b ρ x.2).bind fun y => (F x.1 y.1).bind fun z => (isB z).bind fun k =>
  if k = true then (c ρ y.2).bind fun w => (G y.1 w.1).map fun d => (d, w.2) else some (.bool false, y.2)
theorem ef_chain {r r' : R2} {F G : F2} {ta tb tc : TE} {fa fb fc : Ex} (hF : OF K r F) (hG : OF K r' G) (ha : BF K ta fa) (hb : BF K tb fb) (hc : BF K tc fc) : EF K (tChain r r' ta tb tc) (xChain F G fa fb fc) := by
  refine ⟨fun fr σ H ρ π R d π' e Q q => ?_⟩
  unfold xChain at e
  cases ea : fa ρ π with
  | none => rw [ea] at e; cases e
  | some x =>
    rw [ea] at e
    simp only [Option.bind_some] at e
    cases eb : fb ρ x.2 with
    | none => rw [eb] at e; cases e
    | some y =>
      rw [eb] at e
      simp only [Option.bind_some] at e
      cases ef : F x.1 y.1 with
      | none => rw [ef] at e; cases e
      | some z =>
        rw [ef] at e
        simp only [Option.bind_some] at e
        cases ek : isB z with
        | none => rw [ek] at e; cases e
        | some k =>
          rw [ek] at e
          simp only [Option.bind_some] at e
          refine ha.go fr σ H ρ π R x.1 x.2 ea _ fun vx H1 R1 c1 bx => ?_
          refine hb.go fr σ H1 ρ x.2 R1 y.1 y.2 eb _ fun vy H2 R2 c2 by_ => ?_
          refine hF.go fr H2 _ R2.sA vx vy x.1 y.1 (bx.chg R1 c2) by_ z ef _ fun vz H3 k3 dz => ?_
          rw [isB_some ek] at dz
          cases dz
          have R3 := R2.kp k3
          refine ⟨k, rfl, ?_⟩
          by_cases zz : k = true
          · rw [if_pos zz] at e ⊢
            cases ec : fc ρ y.2 with
            | none => rw [ec] at e; cases e
            | some w =>
              rw [ec] at e
              simp only [Option.bind_some] at e
              cases eg : G y.1 w.1 with
              | none => rw [eg] at e; cases e
              | some g =>
                rw [eg] at e
                cases e
                refine hc.go fr σ H3 ρ y.2 R3 w.1 w.2 ec _ fun vw H4 R4 c4 bw => ?_
                exact hG.go fr H4 _ R4.sA vy vw y.1 w.1 ((by_.chg R2 (.of k3)).chg R3 c4) bw _ eg Q fun v H5 k5 dv => q v H5 (R4.kp k5) (c1.trans (c2.trans ((ChgP.of k3).trans (c4.trans (.of k5))))) dv
          · rw [if_neg zz] at e ⊢
            cases e
            exact q _ H3 R3 (c1.trans (c2.trans (.of k3))) (.bl _)
end FL

noncomputable section
namespace FL
open PySem PySem.Spec PyProof.Rows L2 EP
variable {K : PySem.W.Frag}
/-! ### lists of expressions -/
abbrev Ax := En → Pot → Option (List D × Pot)
def DbA (K : PySem.W.Frag) (fr : Fm) (H : Hp) (S : Addr → Prop) : List V → List D → Prop
  | [], [] => True
  | v :: vs, d :: ds => Db K fr H S v d ∧ DbA K fr H S vs ds
  | _, _ => False
theorem DbA.chg {fr : Fm} {σ : L2.St} {ρ : En} {π : Pot} {H H' : Hp} (r : Rel K fr σ H ρ π) (x : ChgP fr H H') : ∀ {vs : List V} {ds : List D}, DbA K fr H (wd fr σ ρ H).S vs ds → DbA K fr H' (wd fr σ ρ H').S vs ds
  | [], [], _ => trivial
  | v :: vs, d :: ds, h => ⟨h.1.chg r x, DbA.chg r x h.2⟩
/-- each strict (may be handed on) or not -/
structure AF (K : PySem.W.Frag) (t : TA) (f : Ax) : Prop where
  go : ∀ (fr : Fm) (σ : L2.St) (H : Hp) (ρ : En) (π : Pot), Rel K fr σ H ρ π → ∀ ds π', f ρ π = some (ds, π') → ∀ Q : List V → Hp → Prop,
    (∀ vs H', Rel K fr σ H' ρ π' → ChgP fr H H' → DvA K H' (wd fr σ ρ H').S vs ds → Q vs H') → t σ H Q
structure AB (K : PySem.W.Frag) (t : TA) (f : Ax) : Prop where
  go : ∀ (fr : Fm) (σ : L2.St) (H : Hp) (ρ : En) (π : Pot), Rel K fr σ H ρ π → ∀ ds π', f ρ π = some (ds, π') → ∀ Q : List V → Hp → Prop,
    (∀ vs H', Rel K fr σ H' ρ π' → ChgP fr H H' → DbA K fr H' (wd fr σ ρ H').S vs ds → Q vs H') → t σ H Q
@[simp] def aNil : Ax := fun _ π => some ([], π)
@[simp] def aCons (a : Ex) (r : Ax) : Ax := fun ρ π => (a ρ π).bind fun x => (r ρ x.2).map fun y => (x.1 :: y.1, y.2)
theorem aCons_some {a : Ex} {r : Ax} {ρ : En} {π : Pot} {ds : List D} {π' : Pot} (e : aCons a r ρ π = some (ds, π')) : ∃ d π1 es, a ρ π = some (d, π1) ∧ r ρ π1 = some (es, π') ∧ ds = d :: es := by
  unfold aCons at e
  cases ea : a ρ π with
  | none => rw [ea] at e; cases e
  | some x =>
    rw [ea] at e
    simp only [Option.bind_some] at e
    cases eb : r ρ x.2 with
    | none => rw [eb] at e; cases e
    | some y => rw [eb] at e; cases e; exact ⟨x.1, x.2, y.1, rfl, eb, rfl⟩
theorem af_nil : AF K tNil aNil := ⟨fun fr σ H ρ π R d π' e Q q => by cases e; exact q _ H R (.refl _ _) .nil⟩
theorem ab_nil : AB K tNil aNil := ⟨fun fr σ H ρ π R d π' e Q q => by cases e; exact q _ H R (.refl _ _) trivial⟩
theorem af_cons {ta : TE} {tr : TA} {a : Ex} {r : Ax} (h : EF K ta a) (h2 : AF K tr r) : AF K (tCons ta tr) (aCons a r) := by
  refine ⟨fun fr σ H ρ π R ds π' e Q q => ?_⟩
  obtain ⟨d, π1, es, ea, er, rfl⟩ := aCons_some e
  refine h.go fr σ H ρ π R d π1 ea _ fun v H1 R1 c1 dv => ?_
  exact h2.go fr σ H1 ρ π1 R1 es π' er _ fun vs H2 R2 c2 rv => q _ H2 R2 (c1.trans c2) (.cons (dv.step R1.us (c2.step σ ρ)) rv)
theorem ab_cons {ta : TE} {tr : TA} {a : Ex} {r : Ax} (h : BF K ta a) (h2 : AB K tr r) : AB K (tCons ta tr) (aCons a r) := by
  refine ⟨fun fr σ H ρ π R ds π' e Q q => ?_⟩
  obtain ⟨d, π1, es, ea, er, rfl⟩ := aCons_some e
  refine h.go fr σ H ρ π R d π1 ea _ fun v H1 R1 c1 dv => ?_
  exact h2.go fr σ H1 ρ π1 R1 es π' er _ fun vs H2 R2 c2 rv => q _ H2 R2 (c1.trans c2) ⟨dv.chg R1 c2, rv⟩
theorem DvA.dbA {fr : Fm} {H : Hp} {S : Addr → Prop} : ∀ {vs : List V} {ds : List D}, DvA K H S vs ds → DbA K fr H S vs ds
  | _, _, .nil => trivial
  | _, _, .cons a r => ⟨.inl a, r.dbA⟩
theorem AF.ab {t : TA} {f : Ax} (h : AF K t f) : AB K t f := ⟨fun fr σ H ρ π R d π' e Q q => h.go fr σ H ρ π R d π' e Q fun v H' r' c n => q v H' r' c n.dbA⟩
/-! ### displays -/
@[simp] def xTup (a : Ax) : Ex := fun ρ π => (a ρ π).bind fun x => if x.1.length ≤ 100000 then some (.tuple x.1, x.2) else none
@[simp] def xLst (a : Ax) : Ex := fun ρ π => (a ρ π).bind fun x => if x.1.length ≤ 100000 then some (.list x.1, x.2) else none
theorem xTup_some {a : Ax} {ρ : En} {π : Pot} {d : D} {π' : Pot} (e : xTup a ρ π = some (d, π')) : ∃ ds, a ρ π = some (ds, π') ∧ ds.length ≤ 100000 ∧ d = .tuple ds := by
  unfold xTup at e
  cases ea : a ρ π with
  | none => rw [ea] at e; cases e
  | some x =>
    rw [ea] at e
    simp only [Option.bind_some] at e
    split at e
    · cases e; exact ⟨x.1, rfl, by assumption, rfl⟩
    · cases e
theorem xLst_some {a : Ax} {ρ : En} {π : Pot} {d : D} {π' : Pot} (e : xLst a ρ π = some (d, π')) : ∃ ds, a ρ π = some (ds, π') ∧ ds.length ≤ 100000 ∧ d = .list ds := by
  unfold xLst at e
  cases ea : a ρ π with
  | none => rw [ea] at e; cases e
  | some x =>
    rw [ea] at e
    simp only [Option.bind_some] at e
    split at e
    · cases e; exact ⟨x.1, rfl, by assumption, rfl⟩
    · cases e
theorem ef_tup {t : TA} {a : Ax} (h : AF K t a) : EF K (tTup t) (xTup a) := by
  refine ⟨fun fr σ H ρ π R d π' e Q q => ?_⟩
  obtain ⟨ds, ea, l, rfl⟩ := xTup_some e
  refine h.go fr σ H ρ π R ds π' ea _ fun vs H' R' c dv => ⟨by rw [dv.length]; exact szOk l, fun p hp => ?_⟩
  exact q _ _ (R'.kp (upN hp)) (c.trans (.of (upN hp))) (dvTup R'.sA hp dv)
theorem nf_lst {t : TA} {a : Ax} (h : AF K t a) : NF K (tLst t) (xLst a) := by
  refine ⟨fun fr σ H ρ π R d π' e Q q => ?_⟩
  obtain ⟨ds, ea, l, rfl⟩ := xLst_some e
  refine h.go fr σ H ρ π R ds π' ea _ fun vs H' R' c dv => ⟨by rw [dv.length]; exact szOk l, fun p hp => ?_⟩
  exact q _ _ (R'.kp (upN hp)) (c.trans (.of (upN hp))) ((dnNew R'.sA hp dv).back fun p h => R'.back c h)
/-! ### built-ins -/
abbrev F1 := List D → Option D
abbrev RB := List V → Hp → VK → Prop
structure CF (K : PySem.W.Frag) (r : RB) (F : F1) : Prop where
  go : ∀ (fr : Fm) (H : Hp) (S : Addr → Prop), (∀ a, S a → H a ≠ none) → ∀ vs ds, DbA K fr H S vs ds → ∀ d, F ds = some d →
    ∀ Q : VK, (∀ v H', Kp H H' → Dv K H' S v d → Q v H') → r vs H Q
structure CN (K : PySem.W.Frag) (r : RB) (F : F1) : Prop where
  go : ∀ (fr : Fm) (H : Hp) (S : Addr → Prop), (∀ a, S a → H a ≠ none) → ∀ vs ds, DbA K fr H S vs ds → ∀ d, F ds = some d →
    ∀ Q : VK, (∀ v H', Kp H H' → Dn K H H' S v d → Q v H') → r vs H Q
theorem CN.of {r : RB} {F : F1} (h : CN K r F) : CF K r F := ⟨fun fr H S al vs ds hx d e Q q => h.go fr H S al vs ds hx d e Q fun v H' k n => q v H' k n.dv⟩
@[simp] def xCb (F : F1) (a : Ax) : Ex := fun ρ π => (a ρ π).bind fun x => (F x.1).map fun d => (d, x.2)
theorem xCb_some {F : F1} {a : Ax} {ρ : En} {π : Pot} {d : D} {π' : Pot} (e : xCb F a ρ π = some (d, π')) : ∃ ds, a ρ π = some (ds, π') ∧ F ds = some d := by
  unfold xCb at e
  cases ea : a ρ π with
  | none => rw [ea] at e; cases e
  | some x =>
    rw [ea] at e
    simp only [Option.bind_some] at e
    cases ed : F x.1 with
    | none => rw [ed] at e; cases e
    | some z => rw [ed] at e; cases e; exact ⟨x.1, rfl, ed⟩
theorem ef_cb {r : RB} {F : F1} {t : TA} {a : Ax} (hF : CF K r F) (h : AB K t a) : EF K (tCB r t) (xCb F a) := by
  refine ⟨fun fr σ H ρ π R d π' e Q q => ?_⟩
  obtain ⟨ds, ea, ed⟩ := xCb_some e
  refine h.go fr σ H ρ π R ds π' ea _ fun vs H1 R1 c1 dv => ?_
  exact hF.go fr H1 _ R1.sA vs ds dv d ed Q fun v H2 k2 dv => q v H2 (R1.kp k2) (c1.trans (.of k2)) dv
theorem nf_cb {r : RB} {F : F1} {t : TA} {a : Ax} (hF : CN K r F) (h : AB K t a) : NF K (tCB r t) (xCb F a) := by
  refine ⟨fun fr σ H ρ π R d π' e Q q => ?_⟩
  obtain ⟨ds, ea, ed⟩ := xCb_some e
  refine h.go fr σ H ρ π R ds π' ea _ fun vs H1 R1 c1 dv => ?_
  exact hF.go fr H1 _ R1.sA vs ds dv d ed Q fun v H2 k2 dv => q v H2 (R1.kp k2) (c1.trans (.of k2)) (dv.back fun p h => R1.back c1 h)
theorem dbA1 {fr : Fm} {H : Hp} {S : Addr → Prop} {vs : List V} {d : D} (h : DbA K fr H S vs [d]) : ∃ v, vs = [v] ∧ Db K fr H S v d := by
  match vs, h with
  | [v], h => exact ⟨v, rfl, h.1⟩
theorem dbA2 {fr : Fm} {H : Hp} {S : Addr → Prop} {vs : List V} {d e : D} (h : DbA K fr H S vs [d, e]) : ∃ v w, vs = [v, w] ∧ Db K fr H S v d ∧ Db K fr H S w e := by
  match vs, h with
  | [v, w], h => exact ⟨v, w, rfl, h.1, h.2.1⟩
@[simp] def lenF : F1 := fun ds => match ds with
  | [.list a] => some (.int a.length)
  | [.tuple a] => some (.int a.length)
  | [.str a] => if a.length ≤ 100000 then some (.int a.length) else none
  | _ => none
theorem cf_len : CF K (fun xs H Q => ∃ x n, xs = [x] ∧ LenV K x H n ∧ Q (.int n) H) lenF := ⟨fun fr H S al vs ds hx d e Q q => by
  unfold lenF at e
  split at e
  · cases e
    obtain ⟨v, rfl, h⟩ := dbA1 hx
    obtain ⟨p, xs, rfl, ep, rp⟩ := h.list
    exact ⟨_, _, rfl, .inl ⟨xs, sqL ep, rp.length.symm⟩, q _ H (Kp.refl _) (.int _)⟩
  · cases e
    obtain ⟨v, rfl, h⟩ := dbA1 hx
    obtain ⟨p, xs, rfl, ep, rp⟩ := h.tuple
    exact ⟨_, _, rfl, .inr ⟨xs, ep.sq, rp.length.symm⟩, q _ H (Kp.refl _) (.int _)⟩
  · split at e
    · rename_i c
      cases e
      obtain ⟨v, rfl, h⟩ := dbA1 hx
      obtain rfl := h.str
      exact ⟨_, _, rfl, ⟨szOk c, rfl⟩, q _ H (Kp.refl _) (.int _)⟩
    · cases e
  · cases e⟩
@[simp] def absF : F1 := fun ds => match ds with
  | [.int i] => some (.int (if i < 0 then -i else i))
  | _ => none
theorem cf_abs : CF K (fun xs H Q => ∃ i, xs = [.int i] ∧ Q (.int (if i < 0 then -i else i)) H) absF := ⟨fun fr H S al vs ds hx d e Q q => by
  unfold absF at e
  split at e
  · cases e
    obtain ⟨v, rfl, h⟩ := dbA1 hx
    obtain rfl := h.int
    exact ⟨_, rfl, q _ H (Kp.refl _) (.int _)⟩
  · cases e⟩
@[simp] def toIntF : F1 := fun ds => match ds with
  | [.int i] => some (.int i)
  | [.bool b] => some (.int (if b then 1 else 0))
  | _ => none
theorem cf_int : CF K (fun xs H Q => (∃ i, xs = [.int i] ∧ Q (.int i) H) ∨ ∃ k, xs = [.bl k] ∧ Q (.int (if k then 1 else 0)) H) toIntF := ⟨fun fr H S al vs ds hx d e Q q => by
  unfold toIntF at e
  split at e
  · cases e
    obtain ⟨v, rfl, h⟩ := dbA1 hx
    obtain rfl := h.int
    exact .inl ⟨_, rfl, q _ H (Kp.refl _) (.int _)⟩
  · cases e
    obtain ⟨v, rfl, h⟩ := dbA1 hx
    obtain rfl := h.bool
    exact .inr ⟨_, rfl, q _ H (Kp.refl _) (.int _)⟩
  · cases e⟩
@[simp] def max2F : F1 := fun ds => match ds with
  | [.int i, .int j] => some (.int (if j > i then j else i))
  | _ => none
@[simp] def min2F : F1 := fun ds => match ds with
  | [.int i, .int j] => some (.int (if j < i then j else i))
  | _ => none
theorem cf_max2 : CF K (fun xs H Q => ∃ i j, xs = [.int i, .int j] ∧ Q (.int (if j > i then j else i)) H) max2F := ⟨fun fr H S al vs ds hx d e Q q => by
  unfold max2F at e
  split at e
  · cases e
    obtain ⟨v, w, rfl, h, h2⟩ := dbA2 hx
    obtain rfl := h.int
    obtain rfl := h2.int
    exact ⟨_, _, rfl, q _ H (Kp.refl _) (.int _)⟩
  · cases e⟩
theorem cf_min2 : CF K (fun xs H Q => ∃ i j, xs = [.int i, .int j] ∧ Q (.int (if j < i then j else i)) H) min2F := ⟨fun fr H S al vs ds hx d e Q q => by
  unfold min2F at e
  split at e
  · cases e
    obtain ⟨v, w, rfl, h, h2⟩ := dbA2 hx
    obtain rfl := h.int
    obtain rfl := h2.int
    exact ⟨_, _, rfl, q _ H (Kp.refl _) (.int _)⟩
  · cases e⟩
@[simp] def gcdF : F1 := fun ds => match ds with
  | [.int i, .int j] => some (.int (Nat.gcd i.natAbs j.natAbs : Nat))
  | _ => none
theorem cf_gcd : CF K rGcd gcdF := ⟨fun fr H S al vs ds hx d e Q q => by
  unfold gcdF at e
  split at e
  · cases e
    obtain ⟨v, w, rfl, h, h2⟩ := dbA2 hx
    obtain rfl := h.int
    obtain rfl := h2.int
    exact ⟨_, _, rfl, q _ H (Kp.refl _) (.int _)⟩
  · cases e⟩
def divmodF : F1 := fun ds => match ds with
  | [.int i, .int j] => if 0 < j ∧ j < 1073741824 then some (.tuple [.int (i / j), .int (i % j)]) else none
  | _ => none
theorem cf_divmod : CF K (fun xs H Q => ∃ i j, xs = [.int i, .int j] ∧ CDiv i j ∧ ∀ p, H p = none → Q (.ref p) (upd H p (.tup [.int (i / j), .int (i % j)]))) divmodF := ⟨fun fr H S al vs ds hx d e Q q => by
  unfold divmodF at e
  split at e
  · split at e
    · rename_i c
      cases e
      obtain ⟨v, w, rfl, h, h2⟩ := dbA2 hx
      obtain rfl := h.int
      obtain rfl := h2.int
      exact ⟨_, _, rfl, c, fun p hp => q _ _ (upN hp) (dvTup al hp (.cons (.int _) (.cons (.int _) .nil)))⟩
    · cases e
  · cases e⟩
def strF : F1 := fun ds => match ds with
  | [.int i] => if i.natAbs.log2 < 1900 then some (.str (toString i)) else none
  | _ => none
theorem cf_str : CF K (fun xs H Q => ∃ i, xs = [.int i] ∧ i.natAbs.log2 < 1920 ∧ Q (.str (toString i)) H) strF := ⟨fun fr H S al vs ds hx d e Q q => by
  unfold strF at e
  split at e
  · split at e
    · rename_i c
      cases e
      obtain ⟨v, rfl, h⟩ := dbA1 hx
      obtain rfl := h.int
      exact ⟨_, rfl, by omega, q _ H (Kp.refl _) (.str _)⟩
    · cases e
  · cases e⟩
/-- the numbers of a list of such -/
@[simp] def intsO : List D → Option (List Int)
  | [] => some []
  | .int i :: r => (intsO r).map (i :: ·)
  | _ :: _ => none
@[simp] def boolsO : List D → Option (List Bool)
  | [] => some []
  | .bool i :: r => (boolsO r).map (i :: ·)
  | _ :: _ => none
theorem ints_some : ∀ {ds : List D} {ns : List Int}, intsO ds = some ns → ds = ns.map PyData.int
  | [], ns, h => by cases h; rfl
  | .int i :: r, ns, h => by
    unfold intsO at h
    cases e : intsO r with
    | none => rw [e] at h; cases h
    | some ms => rw [e] at h; cases h; rw [ints_some e]; rfl
  | .none :: _, _, h => by simp [intsO] at h
  | .bool _ :: _, _, h => by simp [intsO] at h
  | .str _ :: _, _, h => by simp [intsO] at h
  | .list _ :: _, _, h => by simp [intsO] at h
  | .tuple _ :: _, _, h => by simp [intsO] at h
  | .dict _ :: _, _, h => by simp [intsO] at h
theorem bools_some : ∀ {ds : List D} {ns : List Bool}, boolsO ds = some ns → ds = ns.map PyData.bool
  | [], ns, h => by cases h; rfl
  | .bool i :: r, ns, h => by
    unfold boolsO at h
    cases e : boolsO r with
    | none => rw [e] at h; cases h
    | some ms => rw [e] at h; cases h; rw [bools_some e]; rfl
  | .none :: _, _, h => by simp [boolsO] at h
  | .int _ :: _, _, h => by simp [boolsO] at h
  | .str _ :: _, _, h => by simp [boolsO] at h
  | .list _ :: _, _, h => by simp [boolsO] at h
  | .tuple _ :: _, _, h => by simp [boolsO] at h
  | .dict _ :: _, _, h => by simp [boolsO] at h
theorem ints_map : ∀ ns : List Int, intsO (ns.map PyData.int) = some ns
  | [] => rfl
  | n :: r => by show (intsO (r.map PyData.int)).map _ = _; rw [ints_map r]; rfl
theorem bools_map : ∀ ns : List Bool, boolsO (ns.map PyData.bool) = some ns
  | [] => rfl
  | n :: r => by show (boolsO (r.map PyData.bool)).map _ = _; rw [bools_map r]; rfl
theorem dvInts {H : Hp} {S : Addr → Prop} : ∀ {ns : List Int} {vs : List V}, DvA K H S vs (ns.map PyData.int) → vs = ns.map V.int
  | [], _, h => by cases h; rfl
  | n :: r, _, h => by
    cases h with
    | cons a b => cases a; rw [dvInts b]; rfl
theorem dvBools {H : Hp} {S : Addr → Prop} : ∀ {ns : List Bool} {vs : List V}, DvA K H S vs (ns.map PyData.bool) → vs = ns.map V.bl
  | [], _, h => by cases h; rfl
  | n :: r, _, h => by
    cases h with
    | cons a b => cases a; rw [dvBools b]; rfl
theorem intsDv {H : Hp} {S : Addr → Prop} : ∀ (ns : List Int), DvA K H S (ns.map V.int) (ns.map PyData.int)
  | [] => .nil
  | n :: r => .cons (.int n) (intsDv r)
@[simp] def sumF : F1 := fun ds => match ds with
  | [.list a] => (intsO a).map fun ns => .int ns.sum
  | _ => none
@[simp] def anyF : F1 := fun ds => match ds with
  | [.list a] => (boolsO a).map fun bs => .bool (bs.any id)
  | _ => none
@[simp] def allF : F1 := fun ds => match ds with
  | [.list a] => (boolsO a).map fun bs => .bool (bs.all id)
  | _ => none
theorem cf_sum : CF K (rSum K) sumF := ⟨fun fr H S al vs ds hx d e Q q => by
  unfold sumF at e
  split at e
  · rename_i a
    cases ei : intsO a with
    | none => rw [ei] at e; cases e
    | some ns =>
      rw [ei] at e
      cases e
      obtain ⟨v, rfl, h⟩ := dbA1 hx
      obtain ⟨p, xs, rfl, ep, rp⟩ := h.list
      rw [ints_some ei] at rp
      obtain rfl := dvInts rp
      exact ⟨p, ns, rfl, sqL ep, q _ H (Kp.refl _) (.int _)⟩
  · cases e⟩
theorem cf_any : CF K (rAny K) anyF := ⟨fun fr H S al vs ds hx d e Q q => by
  unfold anyF at e
  split at e
  · rename_i a
    cases ei : boolsO a with
    | none => rw [ei] at e; cases e
    | some ns =>
      rw [ei] at e
      cases e
      obtain ⟨v, rfl, h⟩ := dbA1 hx
      obtain ⟨p, xs, rfl, ep, rp⟩ := h.list
      rw [bools_some ei] at rp
      obtain rfl := dvBools rp
      exact ⟨p, ns, rfl, sqL ep, q _ H (Kp.refl _) (.bl _)⟩
  · cases e⟩
theorem cf_all : CF K (rAll K) allF := ⟨fun fr H S al vs ds hx d e Q q => by
  unfold allF at e
  split at e
  · rename_i a
    cases ei : boolsO a with
    | none => rw [ei] at e; cases e
    | some ns =>
      rw [ei] at e
      cases e
      obtain ⟨v, rfl, h⟩ := dbA1 hx
      obtain ⟨p, xs, rfl, ep, rp⟩ := h.list
      rw [bools_some ei] at rp
      obtain rfl := dvBools rp
      exact ⟨p, ns, rfl, sqL ep, q _ H (Kp.refl _) (.bl _)⟩
  · cases e⟩
@[simp] def listF : F1 := fun ds => match ds with
  | [.list a] => some (.list a)
  | [.tuple a] => some (.list a)
  | _ => none
theorem cn_list : CN K (fun xs H Q => ∃ p ys, xs = [.ref p] ∧ (SqL K H p ys ∨ SqT K H p ys) ∧ ∀ l, H l = none → Q (.ref l) (upd H l (.lst ys))) listF := ⟨fun fr H S al vs ds hx d e Q q => by
  unfold listF at e
  split at e
  · cases e
    obtain ⟨v, rfl, h⟩ := dbA1 hx
    obtain ⟨p, xs, rfl, ep, rp⟩ := h.list
    exact ⟨p, xs, rfl, .inl (sqL ep), fun l hl => q _ _ (upN hl) (dnNew al hl rp)⟩
  · cases e
    obtain ⟨v, rfl, h⟩ := dbA1 hx
    obtain ⟨p, xs, rfl, ep, rp⟩ := h.tuple
    exact ⟨p, xs, rfl, .inr ep.sq, fun l hl => q _ _ (upN hl) (dnNew al hl rp)⟩
  · cases e⟩
@[simp] def tupleF : F1 := fun ds => match ds with
  | [.list a] => some (.tuple a)
  | [.tuple a] => some (.tuple a)
  | _ => none
theorem cf_tuple : CF K (fun xs H Q => ∃ p ys, xs = [.ref p] ∧ ((SqL K H p ys ∧ ∀ l, H l = none → Q (.ref l) (upd H l (.tup ys))) ∨ (SqT K H p ys ∧ Q (.ref p) H))) tupleF := ⟨fun fr H S al vs ds hx d e Q q => by
  unfold tupleF at e
  split at e
  · cases e
    obtain ⟨v, rfl, h⟩ := dbA1 hx
    obtain ⟨p, xs, rfl, ep, rp⟩ := h.list
    exact ⟨p, xs, rfl, .inl ⟨sqL ep, fun l hl => q _ _ (upN hl) (dvTup al hl rp)⟩⟩
  · cases e
    obtain ⟨v, rfl, h⟩ := dbA1 hx
    obtain ⟨p, xs, rfl, ep, rp⟩ := h.tuple
    exact ⟨p, xs, rfl, .inr ⟨ep.sq, q _ H (Kp.refl _) (.tup ep rp)⟩⟩
  · cases e⟩
/-! ### isinstance, repr -/
def tyName : D → String
  | .none => "NoneType"
  | .bool _ => "bool"
  | .int _ => "int"
  | .str _ => "str"
  | .list _ => "list"
  | .tuple _ => "tuple"
  | .dict _ => "dict"
def isiB (T : String) (d : D) : Bool := T == tyName d || (T == "int" && tyName d == "bool")
@[simp] def xIsi (T : String) (a : Ex) : Ex := fun ρ π => (a ρ π).map fun x => (.bool (isiB T x.1), x.2)
theorem STp.ty {H : Hp} {S : Addr → Prop} {a : Addr} {xs : List V} (h : STp K H S a xs) : TyX K H (.ref a) (.type "tuple") := by
  rcases h.sq with r | ⟨o, its, n, e, c, _⟩
  · rcases r with r | ⟨o, r⟩
    · exact .base (.tup r)
    · exact .fTuple r
  · exact .kTuple e c
theorem Db.ty {fr : Fm} {H : Hp} {S : Addr → Prop} {v : V} {d : D} (h : Db K fr H S v d) : TyX K H v (.type (tyName d)) := by
  rcases h with h | ⟨a, xs, ds, rfl, _, rfl, q, z⟩
  · cases h with
    | non => exact .base .non
    | bl b => exact .base (.bl b)
    | int b => exact .base (.int b)
    | str b => exact .base (.str b)
    | lst e n r => exact .base (.lst e)
    | tup e r => exact e.ty
    | dct0 e n => exact .base (.dK e)
  · exact .base (.lst q)
def IsiT (T : String) : Prop := ∀ d : D, kitB (tyName d) T = some (isiB T d)
theorem isi_int : IsiT "int" := fun d => by
  cases d with
  | none => exact (show kitB "NoneType" "int" = some false by decide +kernel)
  | bool b => exact (show kitB "bool" "int" = some true by decide +kernel)
  | int i => exact (show kitB "int" "int" = some true by decide +kernel)
  | str s => exact (show kitB "str" "int" = some false by decide +kernel)
  | list xs => exact (show kitB "list" "int" = some false by decide +kernel)
  | tuple xs => exact (show kitB "tuple" "int" = some false by decide +kernel)
  | dict k => exact (show kitB "dict" "int" = some false by decide +kernel)
theorem isi_bool : IsiT "bool" := fun d => by
  cases d with
  | none => exact (show kitB "NoneType" "bool" = some false by decide +kernel)
  | bool b => exact (show kitB "bool" "bool" = some true by decide +kernel)
  | int i => exact (show kitB "int" "bool" = some false by decide +kernel)
  | str s => exact (show kitB "str" "bool" = some false by decide +kernel)
  | list xs => exact (show kitB "list" "bool" = some false by decide +kernel)
  | tuple xs => exact (show kitB "tuple" "bool" = some false by decide +kernel)
  | dict k => exact (show kitB "dict" "bool" = some false by decide +kernel)
theorem isi_str : IsiT "str" := fun d => by
  cases d with
  | none => exact (show kitB "NoneType" "str" = some false by decide +kernel)
  | bool b => exact (show kitB "bool" "str" = some false by decide +kernel)
  | int i => exact (show kitB "int" "str" = some false by decide +kernel)
  | str s => exact (show kitB "str" "str" = some true by decide +kernel)
  | list xs => exact (show kitB "list" "str" = some false by decide +kernel)
  | tuple xs => exact (show kitB "tuple" "str" = some false by decide +kernel)
  | dict k => exact (show kitB "dict" "str" = some false by decide +kernel)
theorem isi_list : IsiT "list" := fun d => by
  cases d with
  | none => exact (show kitB "NoneType" "list" = some false by decide +kernel)
  | bool b => exact (show kitB "bool" "list" = some false by decide +kernel)
  | int i => exact (show kitB "int" "list" = some false by decide +kernel)
  | str s => exact (show kitB "str" "list" = some false by decide +kernel)
  | list xs => exact (show kitB "list" "list" = some true by decide +kernel)
  | tuple xs => exact (show kitB "tuple" "list" = some false by decide +kernel)
  | dict k => exact (show kitB "dict" "list" = some false by decide +kernel)
theorem isi_tuple : IsiT "tuple" := fun d => by
  cases d with
  | none => exact (show kitB "NoneType" "tuple" = some false by decide +kernel)
  | bool b => exact (show kitB "bool" "tuple" = some false by decide +kernel)
  | int i => exact (show kitB "int" "tuple" = some false by decide +kernel)
  | str s => exact (show kitB "str" "tuple" = some false by decide +kernel)
  | list xs => exact (show kitB "list" "tuple" = some false by decide +kernel)
  | tuple xs => exact (show kitB "tuple" "tuple" = some true by decide +kernel)
  | dict k => exact (show kitB "dict" "tuple" = some false by decide +kernel)
theorem isi_dict : IsiT "dict" := fun d => by
  cases d with
  | none => exact (show kitB "NoneType" "dict" = some false by decide +kernel)
  | bool b => exact (show kitB "bool" "dict" = some false by decide +kernel)
  | int i => exact (show kitB "int" "dict" = some false by decide +kernel)
  | str s => exact (show kitB "str" "dict" = some false by decide +kernel)
  | list xs => exact (show kitB "list" "dict" = some false by decide +kernel)
  | tuple xs => exact (show kitB "tuple" "dict" = some false by decide +kernel)
  | dict k => exact (show kitB "dict" "dict" = some true by decide +kernel)
theorem ef_isi {T : String} {t : TE} {a : Ex} (hT : IsiT T) (h : BF K t a) : EF K (tCB (rIsi K) (tCons t (tCons (tC (.ty T)) tNil))) (xIsi T a) := by
  refine ⟨fun fr σ H ρ π R d π' e Q q => ?_⟩
  unfold xIsi at e
  cases ea : a ρ π with
  | none => rw [ea] at e; cases e
  | some x =>
    rw [ea] at e
    cases e
    refine h.go fr σ H ρ π R x.1 x.2 ea _ fun v H' R' c b => ?_
    exact ⟨v, .ty T, .type (tyName x.1), .type T, _, rfl, .ty T, b.ty, kit_ty (hT x.1), q _ H' R' c (.bl _)⟩
end FL

noncomputable section
namespace FL
open PySem PySem.Spec PyProof.Rows L2 EP
variable {K : PySem.W.Frag}
/-! ### what is walked -/
structure ItOk (K : PySem.W.Frag) (J : It) (P : Wd → Prop) (ds : List D) : Prop where
  st : ∀ A B, (∀ a, A.U a → A.S a) → P A → Step A B → P B
  stop : ∀ i A, P A → ds.length ≤ i → J.stop i A.H
  go : ∀ i d A, (∀ a, A.S a → A.H a ≠ none) → P A → ds[i]? = some d → J.go i A.H ∧ ∀ x H', J.yld i A.H x H' → Kp A.H H' ∧ Dv K H' A.S x d
structure IF (K : PySem.W.Frag) (t : TI) (f : Ax) : Prop where
  go : ∀ (fr : Fm) (σ : L2.St) (H : Hp) (ρ : En) (π : Pot), Rel K fr σ H ρ π → ∀ ds π', f ρ π = some (ds, π') → ∀ R : It → Hp → Prop,
    (∀ J P H', Rel K fr σ H' ρ π' → ChgP fr H H' → ItOk K J P ds → P (wd fr σ ρ H') → R J H') → t σ H R
def LPre (K : PySem.W.Frag) (a : Addr) (xs : List V) (ds : List D) (A : Wd) : Prop := A.H a = some (.lst xs) ∧ ¬ A.U a ∧ DvA K A.H A.S xs ds
theorem LPre.step {a : Addr} {xs : List V} {ds : List D} {A B : Wd} (us : ∀ a, A.U a → A.S a) (h : LPre K a xs ds A) (x : Step A B) : LPre K a xs ds B := by
  refine ⟨x.keep _ _ h.2.1 h.1, fun z => ?_, h.2.2.step us x⟩
  rcases x.u a z with q | q
  · exact h.2.1 q
  · have h1 := h.1
    rw [q] at h1; cases h1
def TPre (K : PySem.W.Frag) (a : Addr) (xs : List V) (ds : List D) (A : Wd) : Prop := STp K A.H A.S a xs ∧ DvA K A.H A.S xs ds
theorem sqL_inj {H : Hp} {a : Addr} {xs ys : List V} (h : H a = some (.lst xs)) (h2 : Rd H a (.lst ys)) : ys = xs := by
  rcases h2 with h2 | ⟨o, h2⟩
  · rw [h] at h2; cases h2; rfl
  · rw [h] at h2; cases h2
theorem itl_ok {a : Addr} {xs : List V} {ds : List D} : ItOk K (Itl K a) (LPre K a xs ds) ds := by
  refine ⟨fun A B us h x => h.step us x, fun i A h l => ⟨xs, sqL h.1, by rw [h.2.2.length]; exact l⟩, fun i d A al h e => ?_⟩
  obtain ⟨v, ev, dv⟩ := h.2.2.get e
  refine ⟨⟨xs, v, sqL h.1, ev⟩, fun x H' y => ?_⟩
  obtain ⟨e1, e2⟩ := y
  subst e1
  have e3 := e2 xs (sqL h.1)
  rw [ev] at e3
  cases e3
  exact ⟨Kp.refl _, dv⟩
theorem itt_ok {a : Addr} {xs : List V} {ds : List D} : ItOk K (Itt K a) (TPre K a xs ds) ds := by
  refine ⟨fun A B us h x => ⟨h.1.step us x, h.2.step us x⟩, fun i A h l => ⟨xs, h.1.sq, by rw [h.2.length]; exact l⟩, fun i d A al h e => ?_⟩
  obtain ⟨v, ev, dv⟩ := h.2.get e
  refine ⟨⟨xs, v, h.1.sq, ev⟩, fun x H' y => ?_⟩
  obtain ⟨e1, e2⟩ := y
  subst e1
  have e3 := e2 xs h.1.sq
  rw [ev] at e3
  cases e3
  exact ⟨Kp.refl _, dv⟩
/-- a list that stands still while it is walked -/
structure LF (K : PySem.W.Frag) (t : TE) (f : Ex) : Prop where
  go : ∀ (fr : Fm) (σ : L2.St) (H : Hp) (ρ : En) (π : Pot), Rel K fr σ H ρ π → ∀ ds π', f ρ π = some (.list ds, π') → ∀ Q : VK,
    (∀ a xs H', Rel K fr σ H' ρ π' → ChgP fr H H' → LPre K a xs ds (wd fr σ ρ H') → Q (.ref a) H') → t σ H Q
theorem EF.lf {t : TE} {f : Ex} (h : EF K t f) : LF K t f := ⟨fun fr σ H ρ π R ds π' e Q q => h.go fr σ H ρ π R _ π' e Q fun v H' R' c dv => by
  cases dv with
  | lst e n r => exact q _ _ H' R' c ⟨e, fun z => n (R'.us _ z), r⟩⟩
@[simp] def xLv (i : Nat) : Ex := fun ρ π => match ρ[i]? with
  | some (.dat d) => some (d, π)
  | some (.arg ds) => some (.list ds, π)
  | _ => none
theorem lf_var (i : Nat) : LF K (tVar i) (xLv i) := by
  refine ⟨fun fr σ H ρ π R ds π' e Q q => ?_⟩
  unfold xLv at e
  split at e
  · rename_i s hs
    cases e
    obtain ⟨v, ev, dv⟩ := R.slot i _ hs
    cases dv with
    | lst e n r => exact ⟨_, ev, q _ _ H R (.refl _ _) ⟨e, fun z => n (R.us _ z), r⟩⟩
  · rename_i s hs
    cases e
    obtain ⟨a, xs, ev, ea, nu, dv⟩ := R.slot i _ hs
    exact ⟨_, ev, q a xs H R (.refl _ _) ⟨ea, nu, dv⟩⟩
  · cases e
@[simp] def lstOf : D → Option (List D)
  | .list ds => some ds
  | _ => none
@[simp] def tupOf : D → Option (List D)
  | .tuple ds => some ds
  | _ => none
theorem lstOf_some {d : D} {ds : List D} (h : lstOf d = some ds) : d = .list ds := by unfold lstOf at h; split at h <;> cases h; rfl
theorem tupOf_some {d : D} {ds : List D} (h : tupOf d = some ds) : d = .tuple ds := by unfold tupOf at h; split at h <;> cases h; rfl
@[simp] def iL (f : Ex) : Ax := fun ρ π => (f ρ π).bind fun x => (lstOf x.1).map fun ds => (ds, x.2)
@[simp] def iT (f : Ex) : Ax := fun ρ π => (f ρ π).bind fun x => (tupOf x.1).map fun ds => (ds, x.2)
theorem iL_some {f : Ex} {ρ : En} {π : Pot} {ds : List D} {π' : Pot} (e : iL f ρ π = some (ds, π')) : f ρ π = some (.list ds, π') := by
  unfold iL at e
  cases ea : f ρ π with
  | none => rw [ea] at e; cases e
  | some x =>
    rw [ea] at e
    simp only [Option.bind_some] at e
    cases ed : lstOf x.1 with
    | none => rw [ed] at e; cases e
    | some z =>
      rw [ed] at e; cases e
      rw [← lstOf_some ed]
theorem iT_some {f : Ex} {ρ : En} {π : Pot} {ds : List D} {π' : Pot} (e : iT f ρ π = some (ds, π')) : f ρ π = some (.tuple ds, π') := by
  unfold iT at e
  cases ea : f ρ π with
  | none => rw [ea] at e; cases e
  | some x =>
    rw [ea] at e
    simp only [Option.bind_some] at e
    cases ed : tupOf x.1 with
    | none => rw [ed] at e; cases e
    | some z =>
      rw [ed] at e; cases e
      rw [← tupOf_some ed]
theorem if_list {t : TE} {f : Ex} (h : LF K t f) : IF K (iList K t) (iL f) := by
  refine ⟨fun fr σ H ρ π R ds π' e Q q => ?_⟩
  exact h.go fr σ H ρ π R ds π' (iL_some e) _ fun a xs H' R' c p => ⟨a, rfl, ⟨xs, sqL p.1⟩, q _ _ H' R' c itl_ok p⟩
theorem if_tup {t : TE} {f : Ex} (h : EF K t f) : IF K (iTup K t) (iT f) := by
  refine ⟨fun fr σ H ρ π R ds π' e Q q => ?_⟩
  refine h.go fr σ H ρ π R _ π' (iT_some e) _ fun v H' R' c dv => ?_
  cases dv with
  | tup e r => exact ⟨_, rfl, ⟨_, e.sq⟩, q _ _ H' R' c itt_ok ⟨e, r⟩⟩
/-- numbers from lo on -/
def rg (lo : Int) (n : Nat) : List D := (List.range n).map fun (i : Nat) => PyData.int (lo + i)
theorem rg_length (lo : Int) (n : Nat) : (rg lo n).length = n := by simp [rg]
theorem rg_get {lo : Int} {n i : Nat} {d : D} (h : (rg lo n)[i]? = some d) : i < n ∧ d = .int (lo + i) := by
  unfold rg at h
  rw [List.getElem?_map] at h
  cases e : (List.range n)[i]? with
  | none => rw [e] at h; cases h
  | some j =>
    rw [e] at h
    cases h
    obtain ⟨l, e2⟩ := List.getElem?_eq_some_iff.mp e
    rw [List.getElem_range] at e2
    subst e2
    exact ⟨by simpa using l, rfl⟩
theorem itr_ok {lo : Int} {n : Nat} : ItOk K (Itr lo n) (fun _ => True) (rg lo n) := by
  refine ⟨fun A B us h x => trivial, fun i A h l => (by rw [rg_length] at l; exact l), fun i d A al h e => ?_⟩
  obtain ⟨l, rfl⟩ := rg_get e
  refine ⟨l, fun x H' y => ?_⟩
  obtain ⟨e1, e2⟩ := y
  subst e1; subst e2
  exact ⟨Kp.refl _, .int _⟩
def rgOk (i : Int) : Bool := cdec (-(2 ^ 62) ≤ i ∧ i < 2 ^ 62)
theorem rgOk_of {i : Int} (h : rgOk i = true) : -(2 ^ 62) ≤ i ∧ i < 2 ^ 62 := by
  exact of_cdec h
theorem rgOk_mk {i : Int} (h1 : -(2 ^ 62) ≤ i) (h2 : i < 2 ^ 62) : rgOk i = true := by
  exact cdec_of ⟨h1, h2⟩
@[simp] def rgF : List D → Option (List D)
  | [.int j] => if rgOk j = true then some (rg 0 j.toNat) else none
  | [.int i, .int j] => if rgOk i = true ∧ rgOk j = true then some (rg i (j - i).toNat) else none
  | _ => none
@[simp] def iR (a : Ax) : Ax := fun ρ π => (a ρ π).bind fun x => (rgF x.1).map fun ds => (ds, x.2)
theorem iR_some {a : Ax} {ρ : En} {π : Pot} {ds : List D} {π' : Pot} (e : iR a ρ π = some (ds, π')) : ∃ es, a ρ π = some (es, π') ∧ rgF es = some ds := by
  unfold iR at e
  cases ea : a ρ π with
  | none => rw [ea] at e; cases e
  | some x =>
    rw [ea] at e
    simp only [Option.bind_some] at e
    cases ed : rgF x.1 with
    | none => rw [ed] at e; cases e
    | some z => rw [ed] at e; cases e; exact ⟨x.1, rfl, ed⟩
theorem if_rng1 {t : TE} {a : Ex} (h : BF K t a) : IF K (iRng1 (tCons t tNil)) (iR (aCons a aNil)) := by
  refine ⟨fun fr σ H ρ π R ds π' e Q q => ?_⟩
  obtain ⟨es, ea, ed⟩ := iR_some e
  obtain ⟨d, π1, es2, e1, e2, rfl⟩ := aCons_some ea
  cases e2
  refine (ab_cons h ab_nil).go fr σ H ρ π R _ π' ea _ fun vs H' R' c b => ?_
  unfold rgF at ed
  split at ed
  · rename_i j he
    cases he
    split at ed
    · rename_i k
      cases ed
      obtain ⟨v, rfl, h1⟩ := dbA1 b
      obtain rfl := h1.int
      have r := rgOk_of k
      exact ⟨j, rfl, r.1, r.2, q _ _ H' R' c itr_ok trivial⟩
    · cases ed
  · rename_i he; cases he
  · cases ed
theorem if_rng2 {t u : TE} {a b : Ex} (h : BF K t a) (h2 : BF K u b) : IF K (iRng2 (tCons t (tCons u tNil))) (iR (aCons a (aCons b aNil))) := by
  refine ⟨fun fr σ H ρ π R ds π' e Q q => ?_⟩
  obtain ⟨es, ea, ed⟩ := iR_some e
  obtain ⟨d, π1, es2, e1, e2, rfl⟩ := aCons_some ea
  obtain ⟨d2, π2, es3, e3, e4, rfl⟩ := aCons_some e2
  cases e4
  refine (ab_cons h (ab_cons h2 ab_nil)).go fr σ H ρ π R _ π' ea _ fun vs H' R' c b => ?_
  unfold rgF at ed
  split at ed
  · rename_i he; cases he
  · rename_i i j he
    cases he
    split at ed
    · rename_i k
      cases ed
      obtain ⟨v, w, rfl, h1, h2⟩ := dbA2 b
      obtain rfl := h1.int
      obtain rfl := h2.int
      have r := rgOk_of k.1
      have r2 := rgOk_of k.2
      exact ⟨i, j, rfl, ⟨r.1, r.2, r2.1, r2.2⟩, q _ _ H' R' c itr_ok trivial⟩
    · cases ed
  · cases ed
/-! ### targets -/
abbrev Gx := D → En → Option En
/-- agree but at some places -/
def Ag (vs : List Nat) (σ σ' : L2.St) : Prop := σ'.length = σ.length ∧ ∀ i : Nat, i ∉ vs → σ'[i]? = σ[i]?
theorem Ag.trans {vs : List Nat} {a b c : L2.St} (x : Ag vs a b) (y : Ag vs b c) : Ag vs a c := ⟨y.1.trans x.1, fun i n => (y.2 i n).trans (x.2 i n)⟩
structure GF (K : PySem.W.Frag) (vs : List Nat) (g : TG) (f : Gx) : Prop where
  ag : ∀ d ρ ρ', f d ρ = some ρ' → ∀ i : Nat, i ∉ vs → ρ'[i]? = ρ[i]?
  go : ∀ (fr : Fm) (σ : L2.St) (H : Hp) (ρ : En) (π : Pot), Rel K fr σ H ρ π → ∀ v d, Dv K H (wd fr σ ρ H).S v d → ∀ ρ', f d ρ = some ρ' → ∀ Q : L2.St → Hp → Prop,
    (∀ σ', Rel K fr σ' H ρ' π → Step (wd fr σ ρ H) (wd fr σ' ρ' H) → Ag vs σ σ' → (∀ a, IsOwn σ' ρ' a → IsOwn σ ρ a) → Q σ' H) → g v σ H Q
structure GsF (K : PySem.W.Frag) (vs : List Nat) (g : TGs) (f : List D → En → Option En) : Prop where
  ag : ∀ d ρ ρ', f d ρ = some ρ' → ∀ i : Nat, i ∉ vs → ρ'[i]? = ρ[i]?
  go : ∀ (fr : Fm) (σ : L2.St) (H : Hp) (ρ : En) (π : Pot), Rel K fr σ H ρ π → ∀ xs ds, DvA K H (wd fr σ ρ H).S xs ds → ∀ ρ', f ds ρ = some ρ' → ∀ Q : L2.St → Hp → Prop,
    (∀ σ', Rel K fr σ' H ρ' π → Step (wd fr σ ρ H) (wd fr σ' ρ' H) → Ag vs σ σ' → (∀ a, IsOwn σ' ρ' a → IsOwn σ ρ a) → Q σ' H) → g xs σ H Q
theorem own_set {σ : L2.St} {ρ : En} {i : Nat} {v : Option V} {s : Slot} (n : s.isOwn = false) {a : Addr} (h : IsOwn (σ.set i v) (ρ.set i s) a) : IsOwn σ ρ a := by
  obtain ⟨j, t, e, o, q⟩ := h
  by_cases c : i = j
  · subst c
    rw [List.getElem?_set_self'] at e
    cases z : ρ[i]? with
    | none => rw [z] at e; cases e
    | some w =>
      rw [z] at e; cases e
      have o : s.isOwn = true := o
      rw [n] at o; cases o
  · rw [List.getElem?_set_ne c] at e q
    exact ⟨j, t, e, o, q⟩
/-- a name gets data -/
theorem Rel.set {fr : Fm} {σ : L2.St} {H : Hp} {ρ : En} {π : Pot} (R : Rel K fr σ H ρ π) {i : Nat} {v : V} {d : D} (dv : Dv K H (wd fr σ ρ H).S v d) :
    Rel K fr (σ.set i (some v)) H (ρ.set i (.dat d)) π ∧ Step (wd fr σ ρ H) (wd fr (σ.set i (some v)) (ρ.set i (.dat d)) H) := by
  have ow : ∀ a, IsOwn (σ.set i (some v)) (ρ.set i (.dat d)) a → IsOwn σ ρ a := fun a h => own_set rfl h
  have st : Step (wd fr σ ρ H) (wd fr (σ.set i (some v)) (ρ.set i (.dat d)) H) := ⟨fun _ _ _ h => h, fun a h => .inl (h.imp id (ow a)), fun a h => .inl (h.imp id (ow a))⟩
  refine ⟨⟨by simp [R.len], fun j s e => ?_, fun j k s t a e1 e2 o1 o2 q1 q2 => ?_, R.all, fun a h => ?_, fun a h => R.os a (ow a h)⟩, st⟩
  · by_cases c : i = j
    · subst c
      have l : i < ρ.length := by
        have := (List.getElem?_eq_some_iff.mp e).1
        simpa using this
      rw [List.getElem?_set_self l] at e
      cases e
      refine ⟨v, by rw [List.getElem?_set_self (by rw [R.len]; exact l)], dv.step R.us st⟩
    · rw [List.getElem?_set_ne c] at e ⊢
      exact (R.slot j s e).stepP R.us st (fun a h => h.imp id (ow a)) fun _ _ _ _ h => h
  · have d1 : i ≠ j := fun c => by
      subst c
      rw [List.getElem?_set_self'] at e1
      cases z : ρ[i]? with
      | none => rw [z] at e1; cases e1
      | some w => rw [z] at e1; cases e1; cases o1
    have d2 : i ≠ k := fun c => by
      subst c
      rw [List.getElem?_set_self'] at e2
      cases z : ρ[i]? with
      | none => rw [z] at e2; cases e2
      | some w => rw [z] at e2; cases e2; cases o2
    rw [List.getElem?_set_ne d1] at e1 q1
    rw [List.getElem?_set_ne d2] at e2 q2
    exact R.nd j k s t a e1 e2 o1 o2 q1 q2
  · obtain ⟨p1, p2, p3⟩ := R.pt a h
    exact ⟨p1, fun z => p2 (ow a z), p3⟩
@[simp] def gN (i : Nat) : Gx := fun d ρ => some (ρ.set i (.dat d))
theorem gf_name {i : Nat} : GF K [i] (gName i) (gN i) := by
  refine ⟨fun d ρ ρ' e j n => ?_, fun fr σ H ρ π R v d dv ρ' e Q q => ?_⟩
  · cases e
    rw [List.getElem?_set_ne]
    intro z; exact n (by rw [z]; simp)
  cases e
  obtain ⟨R', st⟩ := R.set (i := i) dv
  refine q _ R' st ⟨by simp, fun j n => ?_⟩ (fun a h => own_set rfl h)
  rw [List.getElem?_set_ne]
  intro z; exact n (by rw [z]; simp)
@[simp] def gsN : List D → En → Option En := fun ds ρ => match ds with
  | [] => some ρ
  | _ => none
@[simp] def gsC (f : Gx) (g : List D → En → Option En) : List D → En → Option En := fun ds ρ => match ds with
  | d :: r => (f d ρ).bind fun ρ1 => g r ρ1
  | _ => none
theorem gsf_nil {vs : List Nat} : GsF K vs gNil gsN := by
  refine ⟨fun d ρ ρ' e j n => (by unfold gsN at e; split at e <;> cases e; rfl), fun fr σ H ρ π R xs ds dv ρ' e Q q => ?_⟩
  unfold gsN at e
  split at e
  · cases e
    cases dv
    exact ⟨rfl, q σ R (Step.refl _) ⟨rfl, fun _ _ => rfl⟩ fun _ h => h⟩
  · cases e
theorem Ag.mono {vs ws : List Nat} {a b : L2.St} (x : Ag vs a b) (h : ∀ i ∈ vs, i ∈ ws) : Ag ws a b := ⟨x.1, fun i n => x.2 i fun z => n (h i z)⟩
theorem gsf_cons {vs ws : List Nat} {t : TG} {u : TGs} {f : Gx} {g : List D → En → Option En} (h : GF K vs t f) (h2 : GsF K ws u g) : GsF K (vs ++ ws) (gCons t u) (gsC f g) := by
  refine ⟨fun ds ρ ρ' e j n => ?_, fun fr σ H ρ π R xs ds dv ρ' e Q q => ?_⟩
  · unfold gsC at e
    split at e
    · rename_i d r
      cases ef : f d ρ with
      | none => rw [ef] at e; cases e
      | some ρ1 =>
        rw [ef] at e
        rw [h2.ag r ρ1 ρ' e j fun z => n (List.mem_append_right _ z), h.ag d ρ ρ1 ef j fun z => n (List.mem_append_left _ z)]
    · cases e
  unfold gsC at e
  split at e
  · rename_i d r
    cases dv with
    | cons a b =>
      rename_i v vr
      cases ef : f d ρ with
      | none => rw [ef] at e; cases e
      | some ρ1 =>
        rw [ef] at e
        refine ⟨v, vr, rfl, ?_⟩
        refine h.go fr σ H ρ π R v d a ρ1 ef _ fun σ1 R1 s1 a1 o1 => ?_
        refine h2.go fr σ1 H ρ1 π R1 vr r (b.step R.us s1) ρ' e Q fun σ2 R2 s2 a2 o2 => ?_
        exact q σ2 R2 (s1.trans R.us s2) ((a1.mono fun i z => List.mem_append_left _ z).trans (a2.mono fun i z => List.mem_append_right _ z)) fun a z => o1 a (o2 a z)
  · cases e
@[simp] def gT (n : Nat) (g : List D → En → Option En) : Gx := fun d ρ => match d with
  | .tuple ds => if ds.length = n then g ds ρ else none
  | _ => none
theorem gf_tup {vs : List Nat} {n : Nat} {u : TGs} {g : List D → En → Option En} (h : GsF K vs u g) : GF K vs (gTup K n u) (gT n g) := by
  refine ⟨fun d ρ ρ' e j m => (by
    unfold gT at e
    split at e
    · split at e
      · exact h.ag _ ρ ρ' e j m
      · cases e
    · cases e), fun fr σ H ρ π R v d dv ρ' e Q q => ?_⟩
  unfold gT at e
  split at e
  · split at e
    · rename_i ds l
      cases dv with
      | tup e1 r => exact ⟨_, _, rfl, e1.sq, by rw [r.length]; exact l, h.go fr σ H ρ π R _ ds r ρ' e Q q⟩
    · cases e
  · cases e
/-! ### comprehensions -/
@[simp] def wipeE (ρ : En) : List Nat → En
  | [] => ρ
  | v :: vs => (wipeE ρ vs).set v .un
@[simp] def ownFree (ρ : En) (vs : List Nat) : Bool := vs.all fun i => match ρ[i]? with
  | some s => !s.isOwn
  | none => true
@[simp] def lcGo (tg : Gx) (tt : Tx) (el : Ex) (ρw : En) : List D → Pot → Option (List D × Pot)
  | [], π => some ([], π)
  | d :: r, π => (tg d ρw).bind fun ρ2 => (tt ρ2 π).bind fun b => if b.1 = true then (el ρ2 b.2).bind fun y => (lcGo tg tt el ρw r y.2).map fun z => (y.1 :: z.1, z.2) else lcGo tg tt el ρw r b.2
@[simp] def xLc (it : Ax) (tg : Gx) (tt : Tx) (el : Ex) (vs : List Nat) : Ex := fun ρ π => (it ρ π).bind fun x =>
  if ownFree ρ vs = true ∧ x.1.length ≤ 100000 then (lcGo tg tt el (wipeE ρ vs) x.1 x.2).map fun z => (.list z.1, z.2) else none
theorem wipeE_length (ρ : En) : ∀ vs, (wipeE ρ vs).length = ρ.length
  | [] => rfl
  | v :: vs => by show ((wipeE ρ vs).set v .un).length = _; rw [List.length_set]; exact wipeE_length ρ vs
theorem Rel.unset {fr : Fm} {σ : L2.St} {H : Hp} {ρ : En} {π : Pot} (R : Rel K fr σ H ρ π) (i : Nat) : Rel K fr (σ.set i none) H (ρ.set i .un) π ∧ ∀ a, IsOwn (σ.set i none) (ρ.set i .un) a → IsOwn σ ρ a := by
  have ow : ∀ a, IsOwn (σ.set i none) (ρ.set i .un) a → IsOwn σ ρ a := fun a h => own_set rfl h
  have st : Step (wd fr σ ρ H) (wd fr (σ.set i none) (ρ.set i .un) H) := ⟨fun _ _ _ h => h, fun a h => .inl (h.imp id (ow a)), fun a h => .inl (h.imp id (ow a))⟩
  refine ⟨⟨by simp [R.len], fun j s e => ?_, fun j k s t a e1 e2 o1 o2 q1 q2 => ?_, R.all, fun a h => ?_, fun a h => R.os a (ow a h)⟩, ow⟩
  · by_cases c : i = j
    · subst c
      rw [List.getElem?_set_self'] at e
      cases z : ρ[i]? with
      | none => rw [z] at e; cases e
      | some w => rw [z] at e; cases e; trivial
    · rw [List.getElem?_set_ne c] at e ⊢
      exact (R.slot j s e).stepP R.us st (fun a h => h.imp id (ow a)) fun _ _ _ _ h => h
  · have d1 : i ≠ j := fun c => by
      subst c
      rw [List.getElem?_set_self'] at e1
      cases z : ρ[i]? with
      | none => rw [z] at e1; cases e1
      | some w => rw [z] at e1; cases e1; cases o1
    have d2 : i ≠ k := fun c => by
      subst c
      rw [List.getElem?_set_self'] at e2
      cases z : ρ[i]? with
      | none => rw [z] at e2; cases e2
      | some w => rw [z] at e2; cases e2; cases o2
    rw [List.getElem?_set_ne d1] at e1 q1
    rw [List.getElem?_set_ne d2] at e2 q2
    exact R.nd j k s t a e1 e2 o1 o2 q1 q2
  · obtain ⟨p1, p2, p3⟩ := R.pt a h
    exact ⟨p1, fun z => p2 (ow a z), p3⟩
theorem Rel.wiped {fr : Fm} {σ : L2.St} {H : Hp} {ρ : En} {π : Pot} (R : Rel K fr σ H ρ π) : ∀ vs, Rel K fr (wipe σ vs) H (wipeE ρ vs) π ∧ ∀ a, IsOwn (wipe σ vs) (wipeE ρ vs) a → IsOwn σ ρ a
  | [] => ⟨R, fun _ h => h⟩
  | v :: vs => by
    obtain ⟨R1, o1⟩ := R.wiped vs
    obtain ⟨R2, o2⟩ := R1.unset v
    exact ⟨R2, fun a h => o1 a (o2 a h)⟩
theorem wipe_get (σ : L2.St) : ∀ (vs : List Nat) (i : Nat), i ∉ vs → (wipe σ vs)[i]? = σ[i]?
  | [], i, _ => rfl
  | v :: vs, i, h => by
    show ((wipe σ vs).set v none)[i]? = _
    rw [List.getElem?_set_ne (fun z => h (by rw [z]; simp))]
    exact wipe_get σ vs i fun z => h (List.mem_cons_of_mem _ z)
theorem wipe_in (σ : L2.St) : ∀ (vs : List Nat) (i : Nat), i ∈ vs → (wipe σ vs)[i]? = if i < σ.length then some none else none
  | v :: vs, i, h => by
    show ((wipe σ vs).set v none)[i]? = _
    by_cases c : v = i
    · subst c
      rw [List.getElem?_set_self']
      have l := wipe_length σ vs
      by_cases z : v < σ.length
      · rw [if_pos z, List.getElem?_eq_getElem (by rw [l]; exact z)]; rfl
      · rw [if_neg z, List.getElem?_eq_none (by rw [l]; omega)]; rfl
    · rw [List.getElem?_set_ne c]
      refine wipe_in σ vs i ?_
      rcases List.mem_cons.mp h with z | z
      · exact absurd z.symm c
      · exact z
theorem wipe_ag {vs : List Nat} {σ σ' : L2.St} (h : Ag vs (wipe σ vs) σ') : wipe σ' vs = wipe σ vs := by
  refine List.ext_getElem? fun i => ?_
  have l : σ'.length = σ.length := by rw [h.1, wipe_length]
  by_cases c : i ∈ vs
  · rw [wipe_in _ _ _ c, wipe_in _ _ _ c, l]
  · rw [wipe_get _ _ _ c, h.2 i c]
theorem wipeE_get (ρ : En) : ∀ (vs : List Nat) (i : Nat), i ∉ vs → (wipeE ρ vs)[i]? = ρ[i]?
  | [], i, _ => rfl
  | v :: vs, i, h => by
    show ((wipeE ρ vs).set v .un)[i]? = _
    rw [List.getElem?_set_ne (fun z => h (by rw [z]; simp))]
    exact wipeE_get ρ vs i fun z => h (List.mem_cons_of_mem _ z)
theorem own_wipe {σ : L2.St} {ρ : En} {vs : List Nat} (h : ownFree ρ vs = true) {a : Addr} (o : IsOwn σ ρ a) : IsOwn (wipe σ vs) (wipeE ρ vs) a := by
  obtain ⟨i, s, e, q, r⟩ := o
  have n : i ∉ vs := fun z => by
    have := List.all_eq_true.mp h i z
    rw [e] at this
    simp [q] at this
  exact ⟨i, s, by rw [wipeE_get _ _ _ n]; exact e, q, by rw [wipe_get _ _ _ n]; exact r⟩
/-- the same in a frame that keeps one address more -/
theorem Rel.keep {fr : Fm} {σ : L2.St} {H H' : Hp} {ρ : En} {π π' : Pot} (R : Rel K fr σ H ρ π) (c : ChgP fr H H') {p : Addr} (h : H p = none) (h' : H' p ≠ none)
    (pf : ∀ a, fr.pt = some a → H' a = some (.lst (π'.map V.int))) :
    Rel K ⟨fun a => fr.S0 a ∨ a = p, fr.pt⟩ σ H' ρ π' ∧ Step (wd fr σ ρ H) (wd ⟨fun a => fr.S0 a ∨ a = p, fr.pt⟩ σ ρ H') := by
  have st : Step (wd fr σ ρ H) (wd ⟨fun a => fr.S0 a ∨ a = p, fr.pt⟩ σ ρ H') := by
    refine ⟨fun b o n z => c b o (fun y => n (.inl y)) z, fun a z => .inl z, fun a z => ?_⟩
    rcases z with (z | z) | z
    · exact .inl (.inl z)
    · exact .inr (by rw [z]; exact h)
    · exact .inl (.inr z)
  refine ⟨⟨R.len, fun i s e => ?_, R.nd, fun a z => ?_, fun a z => ⟨.inl (R.pt a z).1, (R.pt a z).2.1, pf a z⟩, fun a z y => ?_⟩, st⟩
  · have := (R.slot i s e).stepP R.us st (fun _ h => h) fun o a u e2 q => c a u (fun y => (R.pt a y).2.1 ⟨i, s, e, o, e2⟩) q
    cases s <;> exact this
  · rcases z with z | z
    · intro y
      by_cases w : fr.pt = some a
      · rw [pf a w] at y; cases y
      · cases q : H a with
        | none => exact R.all a z q
        | some o => rw [c a o w q] at y; cases y
    · rw [z]; exact h'
  · rcases y with y | y
    · exact R.os a z y
    · exact R.ownSome z (by rw [y]; exact h)
theorem xLc_some {it : Ax} {tg : Gx} {tt : Tx} {el : Ex} {vs : List Nat} {ρ : En} {π : Pot} {d : D} {π' : Pot} (e : xLc it tg tt el vs ρ π = some (d, π')) :
    ∃ ds π1 acc, it ρ π = some (ds, π1) ∧ ownFree ρ vs = true ∧ ds.length ≤ 100000 ∧ lcGo tg tt el (wipeE ρ vs) ds π1 = some (acc, π') ∧ d = .list acc := by
  unfold xLc at e
  cases ea : it ρ π with
  | none => rw [ea] at e; cases e
  | some x =>
    rw [ea] at e
    simp only [Option.bind_some] at e
    split at e
    · rename_i c
      cases eb : lcGo tg tt el (wipeE ρ vs) x.1 x.2 with
      | none => rw [eb] at e; cases e
      | some y => rw [eb] at e; cases e; exact ⟨x.1, x.2, y.1, rfl, c.1, c.2, eb, rfl⟩
    · cases e
theorem drop_at {α : Type} {xs : List α} {i : Nat} (h : i < xs.length) : ∃ x, xs[i]? = some x ∧ xs.drop i = x :: xs.drop (i + 1) := ⟨xs[i], List.getElem?_eq_getElem h, List.drop_eq_getElem_cons h⟩
theorem nf_lc {wi : TI} {it : Ax} {g : TG} {tg : Gx} {t : TT} {tt : Tx} {te : TE} {el : Ex} {vs : List Nat} (hi : IF K wi it) (hg : GF K vs g tg) (ht : TF K t tt) (he : EF K te el) : NF K (tLc wi g t te vs) (xLc it tg tt el vs) := by
  refine ⟨fun fr σ H ρ π R d π' e Q q => ?_⟩
  obtain ⟨ds, π1, acc, ei, of, ln, eg, rfl⟩ := xLc_some e
  refine hi.go fr σ H ρ π R ds π1 ei _ fun J P H1 R1 c1 ok p1 => ?_
  intro p hp
  have own1 : ∀ a, (wd fr σ ρ H1).S a → a ≠ p := fun a h z => R1.sSome h (by rw [z]; exact hp)
  refine ⟨fun i m H2 => m = ds.length - i ∧ i ≤ ds.length ∧ ∃ (π2 : Pot) (av : List V) (ad rest : List D), ChgP fr H1 H2 ∧
      (∀ a, fr.pt = some a → H2 a = some (.lst (π2.map V.int))) ∧
      H2 p = some (.lst av) ∧ DvA K H2 (fun b => (wd fr σ ρ H2).S b ∨ b = p) av ad ∧ ad.length ≤ i ∧
      lcGo tg tt el (wipeE ρ vs) (ds.drop i) π2 = some (rest, π') ∧ ad ++ rest = acc, ⟨ds.length, by omega, Nat.zero_le _, π1, [], [], acc, .of (upN hp), fun a h => ?_, upd_same, .nil, Nat.le_refl _, eg, rfl⟩, ?_⟩
  · exact upN hp _ _ (R1.pt a h).2.2
  rintro i m H2 ⟨rfl, il, π2, av, ad, rest, c2, pf, ep, da, la, el2, ea⟩
  obtain ⟨R2, st2⟩ := R1.keep c2 hp (by rw [ep]; intro z; cases z) pf
  have P2 := ok.st _ _ R1.us p1 st2
  by_cases c : i < ds.length
  · right
    obtain ⟨d, ed, edr⟩ := drop_at c
    rw [edr] at el2
    obtain ⟨go, yl⟩ := ok.go i d (wd ⟨fun a => fr.S0 a ∨ a = p, fr.pt⟩ σ ρ H2) R2.sA P2 ed
    refine ⟨go, fun H3 => ∃ (π3 : Pot) (av : List V) (ad rest : List D), ChgP fr H1 H3 ∧
      (∀ a, fr.pt = some a → H3 a = some (.lst (π3.map V.int))) ∧
      H3 p = some (.lst av) ∧ DvA K H3 (fun b => (wd fr σ ρ H3).S b ∨ b = p) av ad ∧ ad.length ≤ i + 1 ∧
      lcGo tg tt el (wipeE ρ vs) (ds.drop (i + 1)) π3 = some (rest, π') ∧ ad ++ rest = acc, fun H3 h3 => ⟨ds.length - (i + 1), by omega, rfl, by omega, h3⟩, ?_⟩
    intro x H3 y
    obtain ⟨k3, dx⟩ := yl x H3 y
    have R3 := R2.kp k3
    obtain ⟨Rw, ow⟩ := R3.wiped vs
    -- the turn
    unfold lcGo at el2
    cases etg : tg d (wipeE ρ vs) with
    | none => rw [etg] at el2; cases el2
    | some ρ2 =>
      rw [etg] at el2
      simp only [Option.bind_some] at el2
      have dxw : Dv K H3 (wd ⟨fun a => fr.S0 a ∨ a = p, fr.pt⟩ (wipe σ vs) (wipeE ρ vs) H3).S x d := dx.weak fun a z => z.imp id (ow a)
      refine hg.go _ (wipe σ vs) H3 (wipeE ρ vs) π2 Rw x d dxw ρ2 etg _ fun σ2 R4 st4 ag4 ow4 => ?_
      refine ⟨wipe_ag ag4, ?_⟩
      -- what is kept in the names of the turn is what was
      have ownb : ∀ a, IsOwn σ ρ a → IsOwn σ2 ρ2 a := fun a h => by
        obtain ⟨j, s, e1, e2, e3⟩ := own_wipe of h
        have nj : j ∉ vs := fun z => by
          have o2 := h
          obtain ⟨j2, s2, f1, f2, f3⟩ := own_wipe of h
          have := wipe_in σ vs j z
          rw [e3] at this
          split at this <;> cases this
        exact ⟨j, s, by rw [hg.ag d _ ρ2 etg j nj]; exact e1, e2, by rw [ag4.2 j nj]; exact e3⟩
      have Sb : ∀ H a, (wd fr σ ρ H).S a ∨ a = p → (wd ⟨fun a => fr.S0 a ∨ a = p, fr.pt⟩ σ2 ρ2 H).S a := fun H a z => by
        rcases z with (z | z) | z
        · exact .inl (.inl z)
        · exact .inr (ownb a z)
        · exact .inl (.inr z)
      have fin : ∀ (H4 : Hp) (π4 : Pot), ChgP fr H3 H4 → Rel K ⟨fun a => fr.S0 a ∨ a = p, fr.pt⟩ σ2 H4 ρ2 π4 → ChgP fr H1 H4 ∧
          (∀ a, fr.pt = some a → H4 a = some (.lst (π4.map V.int))) ∧ H4 p = some (.lst av) ∧ DvA K H4 (fun b => (wd fr σ ρ H4).S b ∨ b = p) av ad := by
        intro H4 π4 c4 R5
        have np : fr.pt ≠ some p := fun z => own1 p (.inl (R1.pt p z).1) rfl
        have c24 : ChgP fr H2 H4 := (ChgP.of k3).trans c4
        refine ⟨c2.trans c24, fun a h => ?_, c24 _ _ np ep, ?_⟩
        · exact (R5.pt a h).2.2
        · refine DvA.step (A := ⟨fun a => fr.pt = some a, fun b => (wd fr σ ρ H2).S b ∨ b = p, H2⟩) (B := ⟨fun a => fr.pt = some a, fun b => (wd fr σ ρ H4).S b ∨ b = p, H4⟩) (fun a z => .inl (.inl (R1.pt a z).1)) ?_ da
          exact ⟨fun b o n z => c24 b o n z, fun a z => .inl z, fun a z => .inl z⟩
      cases ett : tt ρ2 π2 with
      | none => rw [ett] at el2; cases el2
      | some b =>
        rw [ett] at el2
        simp only [Option.bind_some] at el2
        refine ht.go _ σ2 H3 ρ2 π2 R4 b.1 b.2 ett _ fun H4 R5 c4 => ?_
        by_cases cb : b.1 = true
        · rw [if_pos cb] at el2 ⊢
          cases eel : el ρ2 b.2 with
          | none => rw [eel] at el2; cases el2
          | some y =>
            rw [eel] at el2
            simp only [Option.bind_some] at el2
            cases elr : lcGo tg tt el (wipeE ρ vs) (ds.drop (i + 1)) y.2 with
            | none => rw [elr] at el2; cases el2
            | some z =>
              rw [elr] at el2
              cases el2
              refine he.go _ σ2 H4 ρ2 b.2 R5 y.1 y.2 eel _ fun v H5 R6 c5 dv => ?_
              obtain ⟨f1, f2, f3, f4⟩ := fin H5 y.2 (c4.trans c5) R6
              refine ⟨av, f3, szLt (by rw [da.length]; omega), ?_⟩
              have np : fr.pt ≠ some p := fun z => own1 p (.inl (R1.pt p z).1) rfl
              have up : ∀ {ws : List V} {es : List D}, DvA K H5 (fun b => (wd fr σ ρ H5).S b ∨ b = p) ws es → DvA K (upd H5 p (.lst (av ++ [v]))) (fun b => (wd fr σ ρ (upd H5 p (.lst (av ++ [v])))).S b ∨ b = p) ws es := fun h =>
                DvA.step (A := ⟨fun a => a = p, fun b => (wd fr σ ρ H5).S b ∨ b = p, H5⟩) (B := ⟨fun a => a = p, fun b => (wd fr σ ρ (upd H5 p (.lst (av ++ [v])))).S b ∨ b = p, upd H5 p (.lst (av ++ [v]))⟩) (fun a z => .inr z)
                  ⟨fun b o n z => by show upd H5 p _ b = _; rw [upd_ne n]; exact z, fun a z => .inl z, fun a z => .inl z⟩ h
              refine ⟨y.2, av ++ [v], ad ++ [y.1], z.1, fun b o n w => ?_, fun a h => ?_, upd_same, ?_, by simp; omega, elr, by rw [List.append_assoc]; exact ea⟩
              · have : b ≠ p := fun q => by rw [q, hp] at w; cases w
                rw [upd_ne this]
                exact f1 b o n w
              · rw [upd_ne (fun q => np (by rw [← q]; exact h))]; exact f2 a h
              · refine up (f4.append (.cons (dv.weak fun a w => Sb H5 a w) .nil))
        · rw [if_neg cb] at el2 ⊢
          obtain ⟨f1, f2, f3, f4⟩ := fin H4 b.2 c4 R5
          exact ⟨b.2, av, ad, rest, f1, f2, f3, f4, by omega, el2, ea⟩
  · left
    have ie : i = ds.length := by omega
    refine ⟨ok.stop i (wd ⟨fun a => fr.S0 a ∨ a = p, fr.pt⟩ σ ρ H2) P2 (by omega), ?_⟩
    rw [ie, List.drop_length] at el2
    unfold lcGo at el2
    cases el2
    rw [List.append_nil] at ea
    subst ea
    have R5 : Rel K fr σ H2 ρ _ := R1.chg c2 pf
    exact q _ H2 R5 (c1.trans c2) ⟨p, av, ad, rfl, rfl, R1.back c1 hp, ep, fun z => own1 p z rfl, da⟩
end FL

noncomputable section
namespace FL
open PySem PySem.Spec PyProof.Rows L2 EP
variable {K : PySem.W.Frag}
/-! ### statements -/
inductive Out where
  | nx | bk | ct | rt (d : D)
abbrev Sx := En → Pot → Option (En × Pot × Out)
/-- what is handed back: data, or a list that the def made -/
def RV (K : PySem.W.Frag) (nw : Bool) (fr : Fm) (own : Addr → Prop) (H : Hp) (v : V) (d : D) (H' : Hp) : Prop :=
  if nw = true then ∃ p xs ds, v = .ref p ∧ d = .list ds ∧ (own p ∨ H p = none) ∧ H' p = some (.lst xs) ∧ ¬ fr.S0 p ∧ DvA K H' (fun a => fr.S0 a ∨ a = p) xs ds
  else Dv K H' fr.S0 v d
def EndOk (K : PySem.W.Frag) (nw : Bool) (fr : Fm) (σ : L2.St) (ρ : En) (H : Hp) (D : Ends) (ρ' : En) (π' : Pot) : Out → Prop
  | .nx => ∀ σ' H', Rel K fr σ' H' ρ' π' → Step (wd fr σ ρ H) (wd fr σ' ρ' H') → D.nx σ' H'
  | .bk => ∀ σ' H', Rel K fr σ' H' ρ' π' → Step (wd fr σ ρ H) (wd fr σ' ρ' H') → D.bk σ' H'
  | .ct => ∀ σ' H', Rel K fr σ' H' ρ' π' → Step (wd fr σ ρ H) (wd fr σ' ρ' H') → D.ct σ' H'
  | .rt d => ∀ v σ' H', Rel K fr σ' H' ρ' π' → Step (wd fr σ ρ H) (wd fr σ' ρ' H') → RV K nw fr (IsOwn σ ρ) H v d H' → D.rt v H'
structure SF (K : PySem.W.Frag) (nw : Bool) (t : TS) (g : Sx) : Prop where
  go : ∀ (fr : Fm) (σ : L2.St) (H : Hp) (ρ : En) (π : Pot), Rel K fr σ H ρ π → ∀ ρ' π' o, g ρ π = some (ρ', π', o) → ∀ D : Ends, EndOk K nw fr σ ρ H D ρ' π' o → t D σ H
theorem RV.trans {nw : Bool} {fr : Fm} {σ σ1 : L2.St} {ρ ρ1 : En} {π1 : Pot} {H H1 H' : Hp} {v : V} {d : D} (R1 : Rel K fr σ1 H1 ρ1 π1) (s : Step (wd fr σ ρ H) (wd fr σ1 ρ1 H1)) (h : RV K nw fr (IsOwn σ1 ρ1) H1 v d H') : RV K nw fr (IsOwn σ ρ) H v d H' := by
  unfold RV at h ⊢
  split at h
  · rename_i c
    rw [if_pos c]
    obtain ⟨p, xs, ds, e1, e2, e3, e4, e5, e6⟩ := h
    refine ⟨p, xs, ds, e1, e2, ?_, e4, e5, e6⟩
    have np : fr.pt ≠ some p := fun z => e5 (R1.pt p z).1
    have : (wd fr σ ρ H).U p ∨ H p = none := by
      rcases e3 with e3 | e3
      · exact s.u p (.inr e3)
      · exact s.none e3
    rcases this with (z | z) | z
    · exact absurd z np
    · exact .inl z
    · exact .inr z
  · rename_i c
    rw [if_neg c]
    exact h
theorem EndOk.from {nw : Bool} {fr : Fm} {σ σ1 : L2.St} {ρ ρ1 : En} {π π1 : Pot} {H H1 : Hp} {D : Ends} {ρ' : En} {π' : Pot} {o : Out} (R : Rel K fr σ H ρ π) (R1 : Rel K fr σ1 H1 ρ1 π1) (s : Step (wd fr σ ρ H) (wd fr σ1 ρ1 H1))
    (h : EndOk K nw fr σ ρ H D ρ' π' o) : EndOk K nw fr σ1 ρ1 H1 D ρ' π' o := by
  cases o with
  | nx => exact fun σ' H' R' s' => h σ' H' R' (s.trans R.us s')
  | bk => exact fun σ' H' R' s' => h σ' H' R' (s.trans R.us s')
  | ct => exact fun σ' H' R' s' => h σ' H' R' (s.trans R.us s')
  | rt d => exact fun v σ' H' R' s' rv => h v σ' H' R' (s.trans R.us s') (rv.trans R1 s)
@[simp] def sNext : Sx := fun ρ π => some (ρ, π, .nx)
@[simp] def sSeq (g h : Sx) : Sx := fun ρ π => (g ρ π).bind fun x => match x.2.2 with
  | .nx => h x.1 x.2.1
  | o => some (x.1, x.2.1, o)
theorem sf_next {nw : Bool} : SF K nw tNext sNext := ⟨fun fr σ H ρ π R ρ' π' o e D q => by cases e; exact q σ H R (Step.refl _)⟩
theorem sf_seq {nw : Bool} {t u : TS} {g h : Sx} (h1 : SF K nw t g) (h2 : SF K nw u h) : SF K nw (tSeq t u) (sSeq g h) := by
  refine ⟨fun fr σ H ρ π R ρ' π' o e D q => ?_⟩
  unfold sSeq at e
  cases eg : g ρ π with
  | none => rw [eg] at e; cases e
  | some x =>
    obtain ⟨ρ1, π1, o1⟩ := x
    rw [eg] at e
    simp only [Option.bind_some] at e
    refine h1.go fr σ H ρ π R ρ1 π1 o1 eg _ ?_
    cases o1 with
    | nx => exact fun σ1 H1 R1 s1 => h2.go fr σ1 H1 ρ1 π1 R1 ρ' π' o e D (q.from R R1 s1)
    | bk => cases e; exact q
    | ct => cases e; exact q
    | rt d => cases e; exact q
@[simp] def sBreak : Sx := fun ρ π => some (ρ, π, .bk)
@[simp] def sCont : Sx := fun ρ π => some (ρ, π, .ct)
theorem sf_break {nw : Bool} : SF K nw tBreak sBreak := ⟨fun fr σ H ρ π R ρ' π' o e D q => by cases e; exact q σ H R (Step.refl _)⟩
theorem sf_cont {nw : Bool} : SF K nw tCont sCont := ⟨fun fr σ H ρ π R ρ' π' o e D q => by cases e; exact q σ H R (Step.refl _)⟩
@[simp] def sNever : Sx := fun _ _ => none
theorem sf_never {nw : Bool} : SF K nw tNever sNever := ⟨fun fr σ H ρ π R ρ' π' o e D q => by cases e⟩
@[simp] def sDrop (f : Ex) : Sx := fun ρ π => (f ρ π).map fun x => (ρ, x.2, .nx)
theorem sf_drop {nw : Bool} {t : TE} {f : Ex} (h : BF K t f) : SF K nw (tDrop t) (sDrop f) := by
  refine ⟨fun fr σ H ρ π R ρ' π' o e D q => ?_⟩
  unfold sDrop at e
  cases ef : f ρ π with
  | none => rw [ef] at e; cases e
  | some x =>
    rw [ef] at e
    cases e
    exact h.go fr σ H ρ π R x.1 x.2 ef _ fun v H' R' c b => q σ H' R' (c.step σ ρ)
@[simp] def sRet (f : Ex) : Sx := fun ρ π => (f ρ π).map fun x => (ρ, x.2, .rt x.1)
theorem sRet_some {f : Ex} {ρ : En} {π : Pot} {r : En × Pot × Out} (e : sRet f ρ π = some r) : ∃ d π', f ρ π = some (d, π') ∧ r = (ρ, π', .rt d) := by
  unfold sRet at e
  cases ef : f ρ π with
  | none => rw [ef] at e; cases e
  | some x => rw [ef] at e; cases e; exact ⟨x.1, x.2, rfl, rfl⟩
theorem sf_ret {t : TE} {f : Ex} (h : EF K t f) : SF K false (tRet t) (sRet f) := by
  refine ⟨fun fr σ H ρ π R ρ' π' o e D q => ?_⟩
  obtain ⟨d, π1, ef, e⟩ := sRet_some e
  cases e
  refine h.go fr σ H ρ π R d π' ef _ fun v H' R' c b => q v σ H' R' (c.step σ ρ) ?_
  exact b.weak fun a z => .inl z
theorem sf_retN {t : TE} {f : Ex} (h : NF K t f) : SF K true (tRet t) (sRet f) := by
  refine ⟨fun fr σ H ρ π R ρ' π' o e D q => ?_⟩
  obtain ⟨d, π1, ef, e⟩ := sRet_some e
  cases e
  refine h.go fr σ H ρ π R d π' ef _ fun v H' R' c b => q v σ H' R' (c.step σ ρ) ?_
  obtain ⟨p, xs, ds, e1, e2, e3, e4, e5, e6⟩ := b
  exact ⟨p, xs, ds, e1, e2, .inr e3, e4, fun z => e5 (.inl z), e6.weak fun a z => z.imp .inl id⟩
/-- the def's own list is handed back -/
@[simp] def sRetO (i : Nat) : Sx := fun ρ π => match ρ[i]? with
  | some (.own ds) => some (ρ, π, .rt (.list ds))
  | _ => none
theorem sf_retO {nw : Bool} (i : Nat) : SF K nw (tRet (tVar i)) (sRetO i) := by
  refine ⟨fun fr σ H ρ π R ρ' π' o e D q => ?_⟩
  unfold sRetO at e
  split at e
  · rename_i ds hs
    cases e
    obtain ⟨a, xs, ev, ea, dv⟩ := R.slot i _ hs
    have ow : IsOwn σ ρ a := ⟨i, _, hs, rfl, ev⟩
    refine ⟨_, ev, q _ σ H R (Step.refl _) ?_⟩
    have n0 := R.os a ow
    unfold RV
    split
    · exact ⟨a, xs, ds, rfl, rfl, .inl ow, ea, n0, dv.weak fun b z => by
        rcases z with z | z
        · exact .inl z
        · exact .inr (by rw [z]; exact ow)⟩
    · exact .lst ea n0 (dv.weak fun b z => .inl z)
  · cases e
@[simp] def sRet0 : Sx := fun ρ π => some (ρ, π, .rt .none)
theorem sf_ret0 : SF K false tRetN sRet0 := ⟨fun fr σ H ρ π R ρ' π' o e D q => by cases e; exact q _ σ H R (Step.refl _) (show Dv K H fr.S0 .non .none from .non)⟩
@[simp] def sIf (c : Tx) (g h : Sx) : Sx := fun ρ π => (c ρ π).bind fun x => if x.1 = true then g ρ x.2 else h ρ x.2
theorem sf_if {nw : Bool} {tc : TT} {t u : TS} {c : Tx} {g h : Sx} (hc : TF K tc c) (h1 : SF K nw t g) (h2 : SF K nw u h) : SF K nw (tIfS tc t u) (sIf c g h) := by
  refine ⟨fun fr σ H ρ π R ρ' π' o e D q => ?_⟩
  unfold sIf at e
  cases ec : c ρ π with
  | none => rw [ec] at e; cases e
  | some x =>
    rw [ec] at e
    simp only [Option.bind_some] at e
    refine hc.go fr σ H ρ π R x.1 x.2 ec _ fun H' R' cg => ?_
    by_cases z : x.1 = true
    · rw [if_pos z] at e ⊢
      exact h1.go fr σ H' ρ x.2 R' ρ' π' o e D (q.from R R' (cg.step σ ρ))
    · rw [if_neg z] at e ⊢
      exact h2.go fr σ H' ρ x.2 R' ρ' π' o e D (q.from R R' (cg.step σ ρ))
@[simp] def sAsg (f : Ex) (g : Gx) : Sx := fun ρ π => (f ρ π).bind fun x => (g x.1 ρ).map fun ρ' => (ρ', x.2, .nx)
theorem sf_asg {nw : Bool} {te : TE} {tg : TG} {f : Ex} {vs : List Nat} {g : Gx} (h : EF K te f) (hg : GF K vs tg g) : SF K nw (tAsg te tg) (sAsg f g) := by
  refine ⟨fun fr σ H ρ π R ρ' π' o e D q => ?_⟩
  unfold sAsg at e
  cases ef : f ρ π with
  | none => rw [ef] at e; cases e
  | some x =>
    rw [ef] at e
    simp only [Option.bind_some] at e
    cases eg : g x.1 ρ with
    | none => rw [eg] at e; cases e
    | some y =>
      rw [eg] at e
      cases e
      refine h.go fr σ H ρ π R x.1 x.2 ef _ fun v H' R' c b => ?_
      exact hg.go fr σ H' ρ x.2 R' v x.1 b ρ' eg _ fun σ' R2 s2 _ _ => q σ' H' R2 ((c.step σ ρ).trans R.us s2)
/-- a name gets a list of its own -/
theorem Rel.setOwn {fr : Fm} {σ : L2.St} {H H' : Hp} {ρ : En} {π π' : Pot} (R : Rel K fr σ H ρ π) (R' : Rel K fr σ H' ρ π') (c : ChgP fr H H') {i : Nat} {p : Addr} {xs : List V} {ds : List D}
    (h0 : H p = none) (h1 : H' p = some (.lst xs)) (h2 : DvA K H' (fun a => (wd fr σ ρ H').S a ∨ a = p) xs ds)
    (hscr : ∀ (j : Nat) (ns : List Int) (a : Addr), ρ[j]? = some (.scr ns) → σ[j]? = some (some (.ref a)) → a ≠ p) :
    Rel K fr (σ.set i (some (.ref p))) H' (ρ.set i (.own ds)) π' ∧ Step (wd fr σ ρ H) (wd fr (σ.set i (some (.ref p))) (ρ.set i (.own ds)) H') := by
  have ow : ∀ a, IsOwn (σ.set i (some (.ref p))) (ρ.set i (.own ds)) a → IsOwn σ ρ a ∨ a = p := by
    rintro a ⟨j, s, e, o, q⟩
    by_cases z : i = j
    · subst z
      rw [List.getElem?_set_self'] at q
      cases y : σ[i]? with
      | none => rw [y] at q; cases q
      | some w =>
        rw [y] at q
        have q2 : some (V.ref p) = some (V.ref a) := Option.some.inj q
        cases q2
        exact .inr rfl
    · rw [List.getElem?_set_ne z] at e q
      exact .inl ⟨j, s, e, o, q⟩
  have nown : ¬ IsOwn σ ρ p := fun z => R.ownSome z h0
  have st : Step (wd fr σ ρ H) (wd fr (σ.set i (some (.ref p))) (ρ.set i (.own ds)) H') := by
    refine ⟨fun b o n z => c b o (fun y => n (.inl y)) z, fun a z => ?_, fun a z => ?_⟩
    · rcases z with z | z
      · exact .inl (.inl z)
      · rcases ow a z with z | z
        · exact .inl (.inr z)
        · exact .inr (by rw [z]; exact h0)
    · rcases z with z | z
      · exact .inl (.inl z)
      · rcases ow a z with z | z
        · exact .inl (.inr z)
        · exact .inr (by rw [z]; exact h0)
  refine ⟨⟨by simp [R.len], fun j s e => ?_, fun j k s t a e1 e2 o1 o2 q1 q2 => ?_, R'.all, fun a h => ?_, fun a h => ?_⟩, st⟩
  · by_cases z : i = j
    · subst z
      have l : i < ρ.length := by
        have := (List.getElem?_eq_some_iff.mp e).1
        simpa using this
      rw [List.getElem?_set_self l] at e
      cases e
      refine ⟨p, xs, by rw [List.getElem?_set_self (by rw [R.len]; exact l)], h1, h2.weak fun a z => ?_⟩
      rcases z with z | z
      · exact .inl (.inl z)
      · exact (ow a z).imp .inr id
    · rw [List.getElem?_set_ne z] at e ⊢
      have sl := R.slot j s e
      have nu : ∀ a, (wd fr (σ.set i (some (.ref p))) (ρ.set i (.own ds)) H').U a → (wd fr σ ρ H).U a ∨ a = p := fun a z => by
        rcases z with z | z
        · exact .inl (.inl z)
        · exact (ow a z).imp .inr id
      cases s with
      | un => trivial
      | dat d => obtain ⟨v, e, q⟩ := sl; exact ⟨v, e, q.step R.us st⟩
      | arg es =>
        obtain ⟨a, ys, e, q, n, r⟩ := sl
        refine ⟨a, ys, e, st.keep _ _ n q, fun z => ?_, r.step R.us st⟩
        rcases nu a z with z | z
        · exact n z
        · rw [z] at q
          have q : H p = _ := q
          rw [h0] at q; cases q
      | own es =>
        obtain ⟨a, ys, e3, q, r⟩ := sl
        have np : fr.pt ≠ some a := fun z => (R.pt a z).2.1 ⟨j, _, e, rfl, e3⟩
        exact ⟨a, ys, e3, c _ _ np q, r.step R.us st⟩
      | dct kvs =>
        obtain ⟨a, ys, e3, q, m, r⟩ := sl
        have np : fr.pt ≠ some a := fun z => (R.pt a z).2.1 ⟨j, _, e, rfl, e3⟩
        exact ⟨a, ys, e3, c _ _ np q, m, r.step R.us st⟩
      | pot => exact sl
      | scr ns =>
        obtain ⟨a, e3, q, n⟩ := sl
        refine ⟨a, e3, ?_, fun z => ?_⟩
        · rcases q with (q | ⟨u, q⟩) | q
          · exact .inl (.inl (st.keep _ _ n q))
          · exact .inl (.inr ⟨u, st.keep _ _ n q⟩)
          · exact .inr q
        · rcases nu a z with z | z
          · exact n z
          · exact hscr j ns a e e3 z
  · by_cases d1 : i = j
    · by_cases d2 : i = k
      · rw [← d1, ← d2]
      · exfalso
        subst d1
        rw [List.getElem?_set_self'] at q1
        rw [List.getElem?_set_ne d2] at e2 q2
        cases y : σ[i]? with
        | none => rw [y] at q1; cases q1
        | some w =>
          rw [y] at q1
          have q3 : some (V.ref p) = some (V.ref a) := Option.some.inj q1
          cases q3
          exact nown ⟨k, t, e2, o2, q2⟩
    · by_cases d2 : i = k
      · exfalso
        subst d2
        rw [List.getElem?_set_self'] at q2
        rw [List.getElem?_set_ne d1] at e1 q1
        cases y : σ[i]? with
        | none => rw [y] at q2; cases q2
        | some w =>
          rw [y] at q2
          have q3 : some (V.ref p) = some (V.ref a) := Option.some.inj q2
          cases q3
          exact nown ⟨j, s, e1, o1, q1⟩
      · rw [List.getElem?_set_ne d1] at e1 q1
        rw [List.getElem?_set_ne d2] at e2 q2
        exact R.nd j k s t a e1 e2 o1 o2 q1 q2
  · obtain ⟨p1, p2, p3⟩ := R'.pt a h
    refine ⟨p1, fun z => ?_, p3⟩
    rcases ow a z with z | z
    · exact p2 z
    · rw [z] at p1
      exact R.all p p1 h0
  · rcases ow a h with z | z
    · exact R.os a z
    · rw [z]; exact fun y => R.all p y h0
def isScr : Slot → Bool
  | .scr _ => true
  | _ => false
/-- a def that reads the script makes no lists of its own -/
def hasScr (ρ : En) : Bool := ρ.any isScr
@[simp] theorem hasScr_nil : hasScr [] = false := rfl
@[simp] theorem hasScr_cons (s : Slot) (r : En) : hasScr (s :: r) = (isScr s || hasScr r) := rfl
@[simp] theorem isScr_un : isScr .un = false := rfl
@[simp] theorem isScr_dat (d : D) : isScr (.dat d) = false := rfl
@[simp] theorem isScr_arg (d : List D) : isScr (.arg d) = false := rfl
@[simp] theorem isScr_own (d : List D) : isScr (.own d) = false := rfl
@[simp] theorem isScr_pot : isScr .pot = false := rfl
theorem noScr {ρ : En} (h : hasScr ρ = false) {j : Nat} {ns : List Int} (e : ρ[j]? = some (.scr ns)) : False := by
  have := List.any_eq_false.mp h (.scr ns) (List.mem_of_getElem? e)
  simp [isScr] at this
@[simp] def oN (i : Nat) : Gx := fun d ρ => if hasScr ρ = true then none else match d with
  | .list ds => some (ρ.set i (.own ds))
  | _ => none
theorem sf_own {nw : Bool} {te : TE} {f : Ex} {i : Nat} (h : NF K te f) : SF K nw (tAsg te (gName i)) (sAsg f (oN i)) := by
  refine ⟨fun fr σ H ρ π R ρ' π' o e D q => ?_⟩
  unfold sAsg at e
  cases ef : f ρ π with
  | none => rw [ef] at e; cases e
  | some x =>
    rw [ef] at e
    simp only [Option.bind_some] at e
    cases eg : oN i x.1 ρ with
    | none => rw [eg] at e; cases e
    | some y =>
      rw [eg] at e
      cases e
      unfold oN at eg
      split at eg
      · cases eg
      · rename_i hs
        have hs : hasScr ρ = false := by simpa using hs
        refine h.go fr σ H ρ π R x.1 x.2 ef _ fun v H' R' c b => ?_
        obtain ⟨p, xs, ds, rfl, e2, h0, h1, _, h2⟩ := b
        rw [e2] at eg
        cases eg
        obtain ⟨R2, s2⟩ := R.setOwn R' c (i := i) h0 h1 h2 (fun j ns a e1 _ => (noScr hs e1).elim)
        exact q _ H' R2 s2
/-- from here on the list is data, and is not changed any more -/
@[simp] def frz (i : Nat) (ρ : En) : En := match ρ[i]? with
  | some (.own ds) => ρ.set i (.dat (.list ds))
  | _ => ρ
theorem Rel.freeze {fr : Fm} {σ : L2.St} {H : Hp} {ρ : En} {π : Pot} (R : Rel K fr σ H ρ π) (i : Nat) : Rel K fr σ H (frz i ρ) π ∧ Step (wd fr σ ρ H) (wd fr σ (frz i ρ) H) ∧ ∀ a, IsOwn σ (frz i ρ) a → IsOwn σ ρ a := by
  unfold frz
  split
  · rename_i ds hs
    have l : i < ρ.length := (List.getElem?_eq_some_iff.mp hs).1
    obtain ⟨a0, xs, ev, ea, dv⟩ := R.slot i _ hs
    have ow : ∀ a, IsOwn σ (ρ.set i (.dat (.list ds))) a → IsOwn σ ρ a ∧ a ≠ a0 := by
      rintro a ⟨j, s, e, o, q⟩
      by_cases z : i = j
      · subst z
        rw [List.getElem?_set_self l] at e
        cases e; cases o
      · rw [List.getElem?_set_ne z] at e
        refine ⟨⟨j, s, e, o, q⟩, fun y => z ?_⟩
        subst y
        exact R.nd i j _ s a hs e rfl o ev q
    have st : Step (wd fr σ ρ H) (wd fr σ (ρ.set i (.dat (.list ds))) H) := ⟨fun _ _ _ h => h, fun a h => .inl (h.imp id fun z => (ow a z).1), fun a h => .inl (h.imp id fun z => (ow a z).1)⟩
    refine ⟨⟨by simp [R.len], fun j s e => ?_, fun j k s t a e1 e2 o1 o2 q1 q2 => ?_, R.all, fun a h => ⟨(R.pt a h).1, fun z => (R.pt a h).2.1 (ow a z).1, (R.pt a h).2.2⟩, fun a h => R.os a (ow a h).1⟩, st, fun a z => (ow a z).1⟩
    · by_cases z : i = j
      · subst z
        rw [List.getElem?_set_self l] at e
        cases e
        refine ⟨_, ev, .lst ea ?_ (dv.step R.us st)⟩
        rintro (y | y)
        · exact R.os a0 ⟨i, _, hs, rfl, ev⟩ y
        · exact (ow a0 y).2 rfl
      · rw [List.getElem?_set_ne z] at e
        exact (R.slot j s e).stepP R.us st (fun a h => h.imp id fun z => (ow a z).1) fun _ _ _ _ h => h
    · have d1 : i ≠ j := fun c => by
        subst c
        rw [List.getElem?_set_self l] at e1; cases e1; cases o1
      have d2 : i ≠ k := fun c => by
        subst c
        rw [List.getElem?_set_self l] at e2; cases e2; cases o2
      rw [List.getElem?_set_ne d1] at e1
      rw [List.getElem?_set_ne d2] at e2
      exact R.nd j k s t a e1 e2 o1 o2 q1 q2
  · exact ⟨R, Step.refl _, fun _ h => h⟩
theorem sf_frz {nw : Bool} {t : TS} {g : Sx} (i : Nat) (h : SF K nw t g) : SF K nw t (fun ρ π => g (frz i ρ) π) := by
  refine ⟨fun fr σ H ρ π R ρ' π' o e D q => ?_⟩
  obtain ⟨R1, s1, _⟩ := R.freeze i
  exact h.go fr σ H (frz i ρ) π R1 ρ' π' o e D (q.from R R1 s1)
/-- a, b = x, y -/
@[simp] def sPar (i j : Nat) (a : Ax) : Sx := fun ρ π => (a ρ π).bind fun x => match x.1 with
  | [d, e] => some ((ρ.set i (.dat d)).set j (.dat e), x.2, .nx)
  | _ => none
theorem sf_par {nw : Bool} {i j : Nat} {t : TA} {a : Ax} (h : AF K t a) : SF K nw (tPar i j t) (sPar i j a) := by
  refine ⟨fun fr σ H ρ π R ρ' π' o e D q => ?_⟩
  unfold sPar at e
  cases ea : a ρ π with
  | none => rw [ea] at e; cases e
  | some x =>
    obtain ⟨ds, π1⟩ := x
    rw [ea] at e
    simp only [Option.bind_some] at e
    split at e
    · rename_i d1 d2
      cases e
      refine h.go fr σ H ρ π R _ π' ea _ fun vs H' R' c b => ?_
      cases b with
      | cons b1 b2 =>
        cases b2 with
        | cons b3 b4 =>
          cases b4
          obtain ⟨R1, s1⟩ := R'.set (i := i) b1
          obtain ⟨R2, s2⟩ := R1.set (i := j) (b3.step R'.us s1)
          exact ⟨_, _, rfl, q _ H' R2 ((c.step σ ρ).trans R.us (s1.trans R'.us s2))⟩
    · cases e
@[simp] def sPar3 (i j l : Nat) (a : Ax) : Sx := fun ρ π => (a ρ π).bind fun x => match x.1 with
  | [d, e, f] => some (((ρ.set i (.dat d)).set j (.dat e)).set l (.dat f), x.2, .nx)
  | _ => none
theorem sf_par3 {nw : Bool} {i j l : Nat} {t : TA} {a : Ax} (h : AF K t a) : SF K nw (tPar3 i j l t) (sPar3 i j l a) := by
  refine ⟨fun fr σ H ρ π R ρ' π' o e D q => ?_⟩
  unfold sPar3 at e
  cases ea : a ρ π with
  | none => rw [ea] at e; cases e
  | some x =>
    obtain ⟨ds, π1⟩ := x
    rw [ea] at e
    simp only [Option.bind_some] at e
    split at e
    · rename_i d1 d2 d3
      cases e
      refine h.go fr σ H ρ π R _ π' ea _ fun vs H' R' c b => ?_
      cases b with
      | cons b1 b2 =>
        cases b2 with
        | cons b3 b4 =>
          cases b4 with
          | cons b5 b6 =>
            cases b6
            obtain ⟨R1, s1⟩ := R'.set (i := i) b1
            obtain ⟨R2, s2⟩ := R1.set (i := j) (b3.step R'.us s1)
            obtain ⟨R3, s3⟩ := R2.set (i := l) ((b5.step R'.us s1).step R1.us s2)
            exact ⟨_, _, _, rfl, q _ H' R3 ((c.step σ ρ).trans R.us (s1.trans R'.us (s2.trans R1.us s3)))⟩
    · cases e
/-- x += e of data -/
@[simp] def sAug (i : Nat) (F : F2) (f : Ex) : Sx := fun ρ π => match ρ[i]? with
  | some (.dat x) => (f ρ π).bind fun y => (F x y.1).map fun z => (ρ.set i (.dat z), y.2, .nx)
  | _ => none
theorem sf_aug {nw : Bool} {i : Nat} {te : TE} {r : TIp} {F : F2} {f : Ex} (hF : OF K r F) (h : BF K te f) : SF K nw (tAug i te r) (sAug i F f) := by
  refine ⟨fun fr σ H ρ π R ρ' π' o e D q => ?_⟩
  unfold sAug at e
  split at e
  · rename_i x hx
    obtain ⟨v, ev, dv⟩ := R.slot i _ hx
    cases ef : f ρ π with
    | none => rw [ef] at e; cases e
    | some y =>
      rw [ef] at e
      simp only [Option.bind_some] at e
      cases ez : F x y.1 with
      | none => rw [ez] at e; cases e
      | some z =>
        rw [ez] at e
        cases e
        refine ⟨v, ev, ?_⟩
        refine h.go fr σ H ρ π R y.1 y.2 ef _ fun w H1 R1 c1 b => ?_
        refine hF.go fr H1 _ R1.sA v w x y.1 (.inl (dv.step R.us (c1.step σ ρ))) b z ez _ fun u H2 k2 dz => ?_
        obtain ⟨R3, s3⟩ := (R1.kp k2).set (i := i) dz
        exact q _ H2 R3 (((c1.trans (.of k2)).step σ ρ).trans R.us s3)
  · cases e
theorem of_ip_add : OF K (ipI fun i j => i + j) (intF fTrue fun i j => .int (i + j)) := ⟨fun fr H S al x y dx dy hx hy d e Q q => by
    obtain ⟨i, j, rfl, rfl, c, rfl⟩ := intF_some e
    obtain rfl := hx.int
    obtain rfl := hy.int
    exact ⟨i, j, rfl, rfl, q _ H (Kp.refl _) (.int _)⟩⟩
theorem of_ip_sub : OF K (ipI fun i j => i - j) subF := ⟨fun fr H S al x y dx dy hx hy d e Q q => by
    obtain ⟨i, j, rfl, rfl, c, rfl⟩ := intF_some e
    obtain rfl := hx.int
    obtain rfl := hy.int
    exact ⟨i, j, rfl, rfl, q _ H (Kp.refl _) (.int _)⟩⟩
@[simp] def addI : F2 := intF fTrue fun i j => .int (i + j)
/-! ### an own list changes -/
theorem Rel.put {fr : Fm} {σ : L2.St} {H : Hp} {ρ : En} {π : Pot} (R : Rel K fr σ H ρ π) {i : Nat} {s s' : Slot} {a : Addr} {o : HO} (hs : ρ[i]? = some s) (so : s.isOwn = true) (so' : s'.isOwn = true) (ev : σ[i]? = some (some (.ref a)))
    (new : SlotOk K fr (wd fr σ ρ (upd H a o)) σ[i]? s') : Rel K fr σ (upd H a o) (ρ.set i s') π ∧ Step (wd fr σ ρ H) (wd fr σ (ρ.set i s') (upd H a o)) := by
  have l : i < ρ.length := (List.getElem?_eq_some_iff.mp hs).1
  have oa : IsOwn σ ρ a := ⟨i, s, hs, so, ev⟩
  have ow : ∀ b, IsOwn σ (ρ.set i s') b → IsOwn σ ρ b := by
    rintro b ⟨j, t, e, ot, q⟩
    by_cases z : i = j
    · subst z
      rw [ev] at q
      cases q
      exact oa
    · rw [List.getElem?_set_ne z] at e
      exact ⟨j, t, e, ot, q⟩
  have st : Step (wd fr σ ρ H) (wd fr σ (ρ.set i s') (upd H a o)) :=
    ⟨fun b u n z => by show upd H a o b = _; rw [upd_ne (fun y => n (.inr (by rw [y]; exact oa)))]; exact z, fun b h => .inl (h.imp id (ow b)), fun b h => .inl (h.imp id (ow b))⟩
  refine ⟨⟨by simp [R.len], fun j t e => ?_, fun j k t u b e1 e2 o1 o2 q1 q2 => ?_, fun b h => ?_, fun b h => ?_, fun b h => R.os b (ow b h)⟩, st⟩
  · by_cases z : i = j
    · subst z
      rw [List.getElem?_set_self l] at e
      cases e
      have st2 : Step (wd fr σ ρ (upd H a o)) (wd fr σ (ρ.set i s') (upd H a o)) := ⟨fun _ _ _ z => z, fun b h => .inl (h.imp id (ow b)), fun b h => .inl (h.imp id (ow b))⟩
      exact SlotOk.stepP (A := wd fr σ ρ (upd H a o)) (B := wd fr σ (ρ.set i s') (upd H a o)) R.us st2 (fun b h => h.imp id (ow b)) (fun _ _ _ _ h => h) new
    · rw [List.getElem?_set_ne z] at e
      refine (R.slot j t e).stepP R.us st (fun b h => h.imp id (ow b)) fun ot b u e2 q => ?_
      show L2.upd H a o b = _
      rw [upd_ne (fun y => z ?_)]
      · exact q
      · subst y
        exact R.nd i j s t b hs e so ot ev e2
  · have own1 : ∀ (j : Nat) (t : Slot), (ρ.set i s')[j]? = some t → t.isOwn = true → ∃ w, ρ[j]? = some w ∧ w.isOwn = true := fun j t e ot => by
      by_cases z : i = j
      · subst z; exact ⟨s, hs, so⟩
      · rw [List.getElem?_set_ne z] at e; exact ⟨t, e, ot⟩
    obtain ⟨w1, f1, g1⟩ := own1 j t e1 o1
    obtain ⟨w2, f2, g2⟩ := own1 k u e2 o2
    exact R.nd j k w1 w2 b f1 f2 g1 g2 q1 q2
  · intro z
    by_cases y : b = a
    · rw [y] at h; exact R.os a oa h
    · rw [upd_ne y] at z; exact R.all b h z
  · obtain ⟨p1, p2, p3⟩ := R.pt b h
    refine ⟨p1, fun z => p2 (ow b z), ?_⟩
    rw [upd_ne (fun y => p2 (by rw [y]; exact oa))]
    exact p3
/-- xs.append(e) -/
@[simp] def sApp (i : Nat) (f : Ex) : Sx := fun ρ π => (f ρ π).bind fun y => match ρ[i]? with
  | some (.own ds) => if ds.length < 100000 then some (ρ.set i (.own (ds ++ [y.1])), y.2, .nx) else none
  | _ => none
theorem sf_app {nw : Bool} {i : Nat} {te : TE} {f : Ex} (h : EF K te f) : SF K nw (tDrop (tBM K "list" rAppend (tVar i) (tCons te tNil))) (sApp i f) := by
  refine ⟨fun fr σ H ρ π R ρ' π' o e D q => ?_⟩
  unfold sApp at e
  cases ef : f ρ π with
  | none => rw [ef] at e; cases e
  | some y =>
    rw [ef] at e
    simp only [Option.bind_some] at e
    split at e
    · rename_i ds hs
      split at e
      · rename_i ln
        cases e
        obtain ⟨a, xs, ev, ea, dv⟩ := R.slot i _ hs
        refine ⟨_, ev, .inl ⟨rfl, xs, sqL ea⟩, ?_⟩
        refine h.go fr σ H ρ π R y.1 y.2 ef _ fun v H1 R1 c1 b => ?_
        obtain ⟨a', xs', ev', ea', dv'⟩ := R1.slot i _ hs
        rw [ev] at ev'
        cases ev'
        have oa : IsOwn σ ρ a := ⟨i, _, hs, rfl, ev⟩
        refine ⟨a, xs', v, rfl, rfl, ea', szLt (by rw [dv'.length]; exact ln), ?_⟩
        have upq : Step ⟨fun b => b = a, (wd fr σ ρ H1).S, H1⟩ ⟨fun b => b = a, (wd fr σ ρ H1).S, upd H1 a (.lst (xs' ++ [v]))⟩ :=
          ⟨fun b u n z => by show L2.upd H1 a _ b = _; rw [upd_ne n]; exact z, fun b z => .inl z, fun b z => .inl z⟩
        have us2 : ∀ b, b = a → (wd fr σ ρ H1).S b := fun b z => .inr (by rw [z]; exact oa)
        obtain ⟨R2, s2⟩ := R1.put (o := .lst (xs' ++ [v])) (s' := .own (ds ++ [y.1])) hs rfl rfl ev ⟨a, xs' ++ [v], ev, upd_same, (dv'.append (.cons b .nil)).step (A := ⟨fun b => b = a, (wd fr σ ρ H1).S, H1⟩) us2 upq⟩
        exact q σ _ R2 ((c1.step σ ρ).trans R.us s2)
      · cases e
    · cases e
/-- xs[i] = e -/
@[simp] def sSet (i : Nat) (f g : Ex) : Sx := fun ρ π => (f ρ π).bind fun y => (g ρ y.2).bind fun z => match ρ[i]?, z.1 with
  | some (.own ds), .int k => (ixN ds.length k).map fun j => (ρ.set i (.own (ds.set j y.1)), z.2, .nx)
  | _, _ => none
theorem sf_set {nw : Bool} {i : Nat} {te ti : TE} {f g : Ex} (h : EF K te f) (hg : BF K ti g) : SF K nw (tAsg te (gSub (tVar i) ti rSetL)) (sSet i f g) := by
  refine ⟨fun fr σ H ρ π R ρ' π' o e D q => ?_⟩
  unfold sSet at e
  cases ef : f ρ π with
  | none => rw [ef] at e; cases e
  | some y =>
    rw [ef] at e
    simp only [Option.bind_some] at e
    cases eg : g ρ y.2 with
    | none => rw [eg] at e; cases e
    | some z =>
      rw [eg] at e
      simp only [Option.bind_some] at e
      split at e
      · rename_i ds k hs hk
        cases ej : ixN ds.length k with
        | none => rw [ej] at e; cases e
        | some j =>
          rw [ej] at e
          cases e
          refine h.go fr σ H ρ π R y.1 y.2 ef _ fun v H1 R1 c1 b => ?_
          obtain ⟨a, xs, ev, ea, dv⟩ := R1.slot i _ hs
          refine ⟨_, ev, ?_⟩
          refine hg.go fr σ H1 ρ y.2 R1 z.1 z.2 eg _ fun w H2 R2 c2 b2 => ?_
          rw [hk] at b2
          obtain rfl := b2.int
          obtain ⟨a', xs', ev', ea', dv'⟩ := R2.slot i _ hs
          rw [ev] at ev'
          cases ev'
          have oa : IsOwn σ ρ a := ⟨i, _, hs, rfl, ev⟩
          refine ⟨a, xs', k, j, rfl, rfl, ea', by rw [dv'.length]; exact ej, ?_⟩
          have upq : Step ⟨fun b => b = a, (wd fr σ ρ H2).S, H2⟩ ⟨fun b => b = a, (wd fr σ ρ H2).S, upd H2 a (.lst (xs'.set j v))⟩ :=
            ⟨fun b u n z => by show L2.upd H2 a _ b = _; rw [upd_ne n]; exact z, fun b z => .inl z, fun b z => .inl z⟩
          have us2 : ∀ b, b = a → (wd fr σ ρ H2).S b := fun b z => .inr (by rw [z]; exact oa)
          obtain ⟨R3, s3⟩ := R2.put (o := .lst (xs'.set j v)) (s' := .own (ds.set j y.1)) hs rfl rfl ev ⟨a, xs'.set j v, ev, upd_same, (dv'.set (b.step R1.us (c2.step σ ρ)) j).step (A := ⟨fun b => b = a, (wd fr σ ρ H2).S, H2⟩) us2 upq⟩
          exact q σ _ R3 (((c1.trans c2).step σ ρ).trans R.us s3)
      · cases e
end FL

noncomputable section
namespace FL
open PySem PySem.Spec PyProof.Rows L2 EP
variable {K : PySem.W.Frag}
/-! ### loops -/
@[simp] def forGo (tg : Gx) (b : Sx) : List D → Sx
  | [], ρ, π => some (ρ, π, .nx)
  | d :: r, ρ, π => (tg d ρ).bind fun ρ1 => (b ρ1 π).bind fun x => match x.2.2 with
    | .nx => forGo tg b r x.1 x.2.1
    | .ct => forGo tg b r x.1 x.2.1
    | .bk => some (x.1, x.2.1, .nx)
    | .rt d => some (x.1, x.2.1, .rt d)
@[simp] def sFor (it : Ax) (tg : Gx) (b : Sx) : Sx := fun ρ π => (it ρ π).bind fun x => forGo tg b x.1 ρ x.2
theorem sf_for {nw : Bool} {wi : TI} {it : Ax} {g : TG} {vs : List Nat} {tg : Gx} {t : TS} {b : Sx} (hi : IF K wi it) (hg : GF K vs g tg) (hb : SF K nw t b) : SF K nw (tFor wi g t) (sFor it tg b) := by
  refine ⟨fun fr σ H ρ π R ρ' π' o e D q => ?_⟩
  unfold sFor at e
  cases ei : it ρ π with
  | none => rw [ei] at e; cases e
  | some x =>
    obtain ⟨ds, π1⟩ := x
    rw [ei] at e
    simp only [Option.bind_some] at e
    refine hi.go fr σ H ρ π R ds π1 ei _ fun J P H1 R1 c1 ok p1 => ?_
    have s01 := c1.step σ ρ
    refine ⟨fun i m σ2 H2 => m = ds.length - i ∧ i ≤ ds.length ∧ ∃ ρ2 π2, Rel K fr σ2 H2 ρ2 π2 ∧ Step (wd fr σ ρ H1) (wd fr σ2 ρ2 H2) ∧ forGo tg b (ds.drop i) ρ2 π2 = some (ρ', π', o),
      ⟨ds.length, by omega, Nat.zero_le _, ρ, π1, R1, Step.refl _, e⟩, ?_⟩
    rintro i m σ2 H2 ⟨rfl, il, ρ2, π2, R2, s2, e2⟩
    have P2 := ok.st _ _ R1.us p1 s2
    by_cases c : i < ds.length
    · right
      obtain ⟨d, ed, edr⟩ := drop_at c
      rw [edr] at e2
      obtain ⟨go, yl⟩ := ok.go i d _ R2.sA P2 ed
      refine ⟨go, fun σ3 H3 => ∃ ρ3 π3, Rel K fr σ3 H3 ρ3 π3 ∧ Step (wd fr σ ρ H1) (wd fr σ3 ρ3 H3) ∧ forGo tg b (ds.drop (i + 1)) ρ3 π3 = some (ρ', π', o),
        fun σ3 H3 ⟨ρ3, π3, h3⟩ => ⟨ds.length - (i + 1), by omega, rfl, by omega, ρ3, π3, h3⟩, ?_⟩
      intro y H3 hy
      obtain ⟨k3, dy⟩ := yl y H3 hy
      have R3 := R2.kp k3
      have s3 := s2.trans R1.us ((ChgP.of k3).step σ2 ρ2)
      unfold forGo at e2
      cases et : tg d ρ2 with
      | none => rw [et] at e2; cases e2
      | some ρ4 =>
        rw [et] at e2
        simp only [Option.bind_some] at e2
        refine hg.go fr σ2 H3 ρ2 π2 R3 y d dy ρ4 et _ fun σ4 R4 s4 _ _ => ?_
        have s14 := s3.trans R1.us s4
        cases eb : b ρ4 π2 with
        | none => rw [eb] at e2; cases e2
        | some z =>
          obtain ⟨ρ5, π5, o5⟩ := z
          rw [eb] at e2
          simp only [Option.bind_some] at e2
          refine hb.go fr σ4 H3 ρ4 π2 R4 ρ5 π5 o5 eb _ ?_
          cases o5 with
          | nx => exact fun σ6 H6 R6 s6 => ⟨ρ5, π5, R6, s14.trans R1.us s6, e2⟩
          | ct => exact fun σ6 H6 R6 s6 => ⟨ρ5, π5, R6, s14.trans R1.us s6, e2⟩
          | bk =>
            cases e2
            exact fun σ6 H6 R6 s6 => q σ6 H6 R6 (s01.trans R.us (s14.trans R1.us s6))
          | rt r =>
            cases e2
            exact fun v σ6 H6 R6 s6 rv => q v σ6 H6 R6 (s01.trans R.us (s14.trans R1.us s6)) (rv.trans R4 (s01.trans R.us s14))
    · left
      have ie : i = ds.length := by omega
      rw [ie, List.drop_length] at e2
      unfold forGo at e2
      cases e2
      exact ⟨ok.stop i _ P2 (by omega), q σ2 H2 R2 (s01.trans R.us s2)⟩
/-- the loop by turns, n at most -/
def whGo (c : Tx) (b : Sx) : Nat → Sx
  | 0, _, _ => none
  | n + 1, ρ, π => (c ρ π).bind fun k => if k.1 = true then (b ρ k.2).bind fun x => match x.2.2 with
      | .nx => whGo c b n x.1 x.2.1
      | .ct => whGo c b n x.1 x.2.1
      | .bk => some (x.1, x.2.1, .nx)
      | .rt d => some (x.1, x.2.1, .rt d)
    else some (ρ, k.2, .nx)
theorem sf_while {nw : Bool} {tc : TT} {t : TS} {c : Tx} {b : Sx} (n : Nat) (hc : TF K tc c) (hb : SF K nw t b) : SF K nw (tWhile tc t) (whGo c b n) := by
  refine ⟨fun fr σ H ρ π R ρ' π' o e D q => ?_⟩
  refine ⟨fun m σ2 H2 => ∃ ρ2 π2, Rel K fr σ2 H2 ρ2 π2 ∧ Step (wd fr σ ρ H) (wd fr σ2 ρ2 H2) ∧ whGo c b m ρ2 π2 = some (ρ', π', o), ⟨n, ρ, π, R, Step.refl _, e⟩, ?_⟩
  rintro m σ2 H2 ⟨ρ2, π2, R2, s2, e2⟩
  cases m with
  | zero => cases e2
  | succ m =>
    unfold whGo at e2
    cases ec : c ρ2 π2 with
    | none => rw [ec] at e2; cases e2
    | some k =>
      rw [ec] at e2
      simp only [Option.bind_some] at e2
      refine hc.go fr σ2 H2 ρ2 π2 R2 k.1 k.2 ec _ fun H3 R3 c3 => ?_
      have s3 := s2.trans R.us (c3.step σ2 ρ2)
      by_cases z : k.1 = true
      · rw [if_pos z] at e2 ⊢
        refine ⟨fun σ4 H4 => ∃ ρ2 π2, Rel K fr σ4 H4 ρ2 π2 ∧ Step (wd fr σ ρ H) (wd fr σ4 ρ2 H4) ∧ whGo c b m ρ2 π2 = some (ρ', π', o), fun σ4 H4 h4 => ⟨m, Nat.lt_succ_self m, h4⟩, ?_⟩
        cases eb : b ρ2 k.2 with
        | none => rw [eb] at e2; cases e2
        | some y =>
          obtain ⟨ρ5, π5, o5⟩ := y
          rw [eb] at e2
          simp only [Option.bind_some] at e2
          refine hb.go fr σ2 H3 ρ2 k.2 R3 ρ5 π5 o5 eb _ ?_
          cases o5 with
          | nx => exact fun σ6 H6 R6 s6 => ⟨ρ5, π5, R6, s3.trans R.us s6, e2⟩
          | ct => exact fun σ6 H6 R6 s6 => ⟨ρ5, π5, R6, s3.trans R.us s6, e2⟩
          | bk =>
            cases e2
            exact fun σ6 H6 R6 s6 => q σ6 H6 R6 (s3.trans R.us s6)
          | rt r =>
            cases e2
            exact fun v σ6 H6 R6 s6 rv => q v σ6 H6 R6 (s3.trans R.us s6) (rv.trans R3 s3)
      · rw [if_neg z] at e2 ⊢
        cases e2
        exact q σ2 H3 R3 s3
/-- how many turns at most: more than any loop of ours makes -/
@[simp] def sWhile (c : Tx) (b : Sx) : Sx := whGo c b 10000000
/-! ### defs -/
/-- an argument: strict, or a list that is read alone -/
def ArgA (K : PySem.W.Frag) (fr : Fm) (H : Hp) (S : Addr → Prop) : List Bool → List V → List D → Prop
  | [], [], [] => True
  | k :: ks, v :: vs, d :: ds => (if k = true then Db K fr H S v d else Dv K H S v d) ∧ ArgA K fr H S ks vs ds
  | _, _, _ => False
@[simp] def slotOf (k : Bool) (d : D) : Slot := if k = true then (match d with
  | .list ds => .arg ds
  | d => .dat d) else .dat d
@[simp] def initE : List Bool → List D → Nat → En
  | k :: ks, d :: ds, n => slotOf k d :: initE ks ds n
  | _, _, n => List.replicate n .un
@[simp] def outOf : Option (En × Pot × Out) → Option (D × Pot)
  | some (_, π, .rt d) => some (d, π)
  | some (_, π, .nx) => some (.none, π)
  | _ => none
/-- a def without a pot -/
@[simp] def runF (n : Nat) (ks : List Bool) (b : Sx) : List D → Option D := fun ds => if ds.length = ks.length then (outOf (b (initE ks ds n) [])).map (·.1) else none
/-- a def whose first parameter is the pot -/
@[simp] def runP (n : Nat) (ks : List Bool) (b : Sx) : Pot → List D → Option (D × Pot) := fun π ds => if ds.length = ks.length then outOf (b (.pot :: initE ks ds n) π) else none
def SpF (K : PySem.W.Frag) (nw : Bool) (ks : List Bool) (F : List D → Option D) : Sp := fun vs H Q _ => ∃ (S : Addr → Prop) (pt : Option Addr) (ds : List D) (d : D), (∀ a, S a → H a ≠ none) ∧ (∀ a, pt = some a → S a) ∧ ArgA K ⟨S, pt⟩ H S ks vs ds ∧ F ds = some d ∧
  ∀ v H', Kp H H' → (if nw = true then Dn K H H' S v d else Dv K H' S v d) → Q v H'
def SpP (K : PySem.W.Frag) (nw : Bool) (ks : List Bool) (F : Pot → List D → Option (D × Pot)) : Sp := fun vs H Q _ => ∃ (S : Addr → Prop) (a : Addr) (ws : List V) (π : Pot) (ds : List D) (d : D) (π' : Pot), vs = .ref a :: ws ∧ (∀ a, S a → H a ≠ none) ∧ S a ∧
  H a = some (.lst (π.map V.int)) ∧ ArgA K ⟨S, some a⟩ H S ks ws ds ∧ F π ds = some (d, π') ∧
  ∀ v H', Bt a H H' → H' a = some (.lst (π'.map V.int)) → (if nw = true then Dn K H H' S v d else Dv K H' S v d) → Q v H'
theorem ArgA.len {fr : Fm} {H : Hp} {S : Addr → Prop} : ∀ {ks : List Bool} {vs : List V} {ds : List D}, ArgA K fr H S ks vs ds → vs.length = ks.length ∧ ds.length = ks.length
  | [], [], [], _ => ⟨rfl, rfl⟩
  | k :: ks, v :: vs, d :: ds, h => by
    obtain ⟨a, b⟩ := ArgA.len h.2
    exact ⟨congrArg (· + 1) a, congrArg (· + 1) b⟩
theorem initE_len : ∀ {ks : List Bool} {ds : List D} {n : Nat}, ds.length = ks.length → (initE ks ds n).length = ks.length + n
  | [], [], n, _ => by simp [initE]
  | k :: ks, d :: ds, n, h => by
    have h2 : ds.length = ks.length := by simpa using h
    show (initE ks ds n).length + 1 = ks.length + 1 + n
    rw [initE_len h2]; omega
theorem slotOf_own (k : Bool) (d : D) : (slotOf k d).isOwn = false := by
  unfold slotOf
  split
  · split <;> rfl
  · rfl
theorem initE_own : ∀ {ks : List Bool} {ds : List D} {n i : Nat} {s : Slot}, (initE ks ds n)[i]? = some s → s.isOwn = false
  | k :: ks, d :: ds, n, 0, s, h => by
    have h2 : some (slotOf k d) = some s := h
    cases h2
    exact slotOf_own k d
  | k :: ks, d :: ds, n, i + 1, s, h => initE_own (ks := ks) (ds := ds) (n := n) (i := i) h
  | [], ds, n, i, s, h => by
    have h2 : (List.replicate n Slot.un)[i]? = some s := by simpa [initE] using h
    obtain ⟨_, e⟩ := List.getElem?_eq_some_iff.mp h2
    simp at e
    rw [← e]; rfl
  | k :: ks, [], n, i, s, h => by
    have h2 : (List.replicate n Slot.un)[i]? = some s := by simpa [initE] using h
    obtain ⟨_, e⟩ := List.getElem?_eq_some_iff.mp h2
    simp at e
    rw [← e]; rfl
theorem initE_slot {fr : Fm} {A : Wd} (hU : ∀ a, A.U a ↔ fr.pt = some a) (hS : ∀ a, fr.pt = some a → A.S a) : ∀ {ks : List Bool} {vs : List V} {ds : List D} {n m i : Nat} {s : Slot}, ArgA K fr A.H A.S ks vs ds → (initE ks ds n)[i]? = some s →
    SlotOk K fr A (vs.map some ++ List.replicate m none)[i]? s
  | [], [], [], n, m, i, s, _, h => by
    have h2 : (List.replicate n Slot.un)[i]? = some s := by simpa [initE] using h
    obtain ⟨_, e⟩ := List.getElem?_eq_some_iff.mp h2
    simp at e
    rw [← e]; trivial
  | k :: ks, v :: vs, d :: ds, n, m, 0, s, h, e => by
    have e2 : some (slotOf k d) = some s := e
    cases e2
    obtain ⟨h1, _⟩ := h
    show SlotOk K fr A (some (some v)) _
    unfold slotOf
    by_cases c : k = true
    · rw [if_pos c] at h1 ⊢
      split
      · rename_i es
        rcases h1 with h1 | ⟨a, xs, ds', e1, e2, e3, e4, e5⟩
        · cases h1 with
          | lst e n r => exact ⟨_, _, rfl, e, fun z => n (hS _ ((hU _).mp z)), r⟩
        · cases e3
          exact ⟨a, xs, by rw [e1], e4, fun z => e2 ((hU _).mp z), e5⟩
      · rename_i n1
        exact ⟨v, rfl, h1.flat fun ds z => n1 ds z⟩
    · rw [if_neg c] at h1 ⊢
      exact ⟨v, rfl, h1⟩
  | k :: ks, v :: vs, d :: ds, n, m, i + 1, s, h, e => initE_slot hU hS (ks := ks) (vs := vs) (ds := ds) (n := n) (m := m) (i := i) h.2 e
theorem outOf_some {x : Option (En × Pot × Out)} {d : D} {π : Pot} (h : outOf x = some (d, π)) : (∃ ρ, x = some (ρ, π, .rt d)) ∨ ∃ ρ, x = some (ρ, π, .nx) ∧ d = .none := by
  unfold outOf at h
  split at h
  · cases h; exact .inl ⟨_, rfl⟩
  · cases h; exact .inr ⟨_, rfl, rfl⟩
  · cases h
theorem start_len {N : List Str} {vs : List V} (h : vs.length ≤ N.length) : (start N vs).length = N.length := by
  unfold L2.start
  rw [List.length_append, List.length_map, List.length_replicate]; omega
/-- from the body's function to the def's promise -/
theorem SF.spF {nw : Bool} {N : List Str} {ks : List Bool} {n : Nat} {t : TS} {b : Sx} (h : SF K nw t b) (hn : N.length = ks.length + n) {vs : List V} {H : Hp} {Q : VK} {E : XK}
    (p : SpF K nw ks (runF n ks b) vs H Q E) (z : nw = true → ∀ ρ π ρ' π', b ρ π = some (ρ', π', .nx) → False) : t { nx := fun _ H' => Q .non H', rt := Q } (start N vs) H := by
  obtain ⟨S, pt, ds, d, al, pS, ar, e, q⟩ := p
  have ln := ar.len
  unfold runF at e
  rw [if_pos ln.2] at e
  cases eo : outOf (b (initE ks ds n) []) with
  | none => rw [eo] at e; cases e
  | some x =>
    rw [eo] at e
    have e1 : x.1 = d := by simpa using e
    obtain ⟨d1, π1⟩ := x
    subst e1
    have noOwn : ∀ a, ¬ IsOwn (start N vs) (initE ks ds n) a := by
      rintro a ⟨i, s, e1, e2, _⟩
      rw [initE_own e1] at e2; cases e2
    have ar2 : ArgA K ⟨S, none⟩ H S ks vs ds := by
      have : ∀ (ks : List Bool) (vs : List V) (ds : List D), ArgA K ⟨S, pt⟩ H S ks vs ds → ArgA K ⟨S, none⟩ H S ks vs ds := by
        intro ks
        induction ks with
        | nil => intro vs ds h; cases vs <;> cases ds <;> first | trivial | exact h.elim
        | cons k ks ih =>
          intro vs ds h
          cases vs with
          | nil => cases ds <;> exact h.elim
          | cons v vs =>
            cases ds with
            | nil => exact h.elim
            | cons d ds =>
              refine ⟨?_, ih vs ds h.2⟩
              have h1 := h.1
              split
              · rename_i c
                rw [if_pos c] at h1
                rcases h1 with h1 | ⟨a, xs, es, e1, e2, e3⟩
                · exact .inl h1
                · exact .inr ⟨a, xs, es, e1, (by intro z; cases z), e3⟩
              · rename_i c
                rw [if_neg c] at h1
                exact h1
      exact this ks vs ds ar
    have hS : ∀ a, (wd ⟨S, none⟩ (start N vs) (initE ks ds n) H).S a ↔ S a := fun a => ⟨fun y => y.elim id fun w => (noOwn a w).elim, .inl⟩
    have R : Rel K ⟨S, none⟩ (start N vs) H (initE ks ds n) [] := by
      refine ⟨by rw [start_len (by omega), initE_len ln.2, hn], fun i s e => ?_, fun i j s t a e1 e2 o1 => (by rw [initE_own e1] at o1; cases o1), al, fun a y => (by cases y), fun a y => (noOwn a y).elim⟩
      refine initE_slot (fr := ⟨S, none⟩) (A := wd ⟨S, none⟩ (start N vs) (initE ks ds n) H) (fun a => ⟨fun y => y.elim id fun w => (noOwn a w).elim, .inl⟩) (fun a y => by cases y) ?_ e
      have e3 : (wd ⟨S, none⟩ (start N vs) (initE ks ds n) H).S = S := funext fun a => propext (hS a)
      rw [e3]
      exact ar2
    have fin : ∀ (v : V) (σ' : L2.St) (H' : Hp) (ρ' : En), Rel K ⟨S, none⟩ σ' H' ρ' π1 → Step (wd ⟨S, none⟩ (start N vs) (initE ks ds n) H) (wd ⟨S, none⟩ σ' ρ' H') → RV K nw ⟨S, none⟩ (IsOwn (start N vs) (initE ks ds n)) H v d1 H' → Q v H' := by
      intro v σ' H' ρ' R' s' rv
      refine q v H' (fun a o y => s'.keep a o (fun w => w.elim (fun w => by cases w) (noOwn a)) y) ?_
      unfold RV at rv
      split at rv
      · rename_i c
        rw [if_pos c]
        obtain ⟨p, xs, es, e1, e2, e3, e4, e5, e6⟩ := rv
        exact ⟨p, xs, es, e1, e2, e3.elim (fun w => (noOwn p w).elim) id, e4, e5, e6⟩
      · rename_i c
        rw [if_neg c]
        exact rv
    rcases outOf_some eo with ⟨ρ', e2⟩ | ⟨ρ', e2, e3⟩
    · exact h.go ⟨S, none⟩ _ H _ [] R ρ' π1 _ e2 _ fun v σ' H' R' s' rv => fin v σ' H' ρ' R' s' rv
    · refine h.go ⟨S, none⟩ _ H _ [] R ρ' π1 _ e2 _ fun σ' H' R' s' => fin .non σ' H' ρ' R' s' ?_
      have e3 : d1 = .none := e3
      subst e3
      unfold RV
      split
      · rename_i c
        exact (z c _ _ _ _ e2).elim
      · exact .non
theorem SF.spP {nw : Bool} {N : List Str} {ks : List Bool} {n : Nat} {t : TS} {b : Sx} (h : SF K nw t b) (hn : N.length = ks.length + n + 1) {vs : List V} {H : Hp} {Q : VK} {E : XK}
    (p : SpP K nw ks (runP n ks b) vs H Q E) (z : nw = true → ∀ ρ π ρ' π', b ρ π = some (ρ', π', .nx) → False) : t { nx := fun _ H' => Q .non H', rt := Q } (start N vs) H := by
  obtain ⟨S, a0, ws, π, ds, d1, π1, rfl, al, Sa, ea, ar, e, q⟩ := p
  have ln := ar.len
  unfold runP at e
  rw [if_pos ln.2] at e
  have noOwn : ∀ a, ¬ IsOwn (start N (.ref a0 :: ws)) (.pot :: initE ks ds n) a := by
    rintro a ⟨i, s, e1, e2, _⟩
    cases i with
    | zero => cases e1; cases e2
    | succ i => rw [initE_own e1] at e2; cases e2
  have hS : ∀ a, (wd ⟨S, some a0⟩ (start N (.ref a0 :: ws)) (.pot :: initE ks ds n) H).S a ↔ S a := fun a => ⟨fun y => y.elim id fun w => (noOwn a w).elim, .inl⟩
  have e3 : (wd ⟨S, some a0⟩ (start N (.ref a0 :: ws)) (.pot :: initE ks ds n) H).S = S := funext fun a => propext (hS a)
  have R : Rel K ⟨S, some a0⟩ (start N (.ref a0 :: ws)) H (.pot :: initE ks ds n) π := by
    refine ⟨?_, fun i s e => ?_, fun i j s t a e1 e2 o1 => ?_, al, fun a y => ?_, fun a y => (noOwn a y).elim⟩
    · rw [start_len (by simp; omega)]
      show N.length = (initE ks ds n).length + 1
      rw [initE_len ln.2, hn]
    · cases i with
      | zero => cases e; exact ⟨a0, rfl, rfl⟩
      | succ i =>
        have := initE_slot (K := K) (fr := ⟨S, some a0⟩) (A := wd ⟨S, some a0⟩ (start N (.ref a0 :: ws)) (.pot :: initE ks ds n) H) (m := N.length - (ws.length + 1)) (fun a => ⟨fun y => y.elim id fun w => (noOwn a w).elim, .inl⟩) (fun a y => by cases y; exact .inl Sa) (by rw [e3]; exact ar) e
        exact this
    · cases i with
      | zero => cases e1; cases o1
      | succ i => rw [initE_own e1] at o1; cases o1
    · cases y
      exact ⟨Sa, noOwn _, ea⟩
  have fin : ∀ (v : V) (σ' : L2.St) (H' : Hp) (ρ' : En), Rel K ⟨S, some a0⟩ σ' H' ρ' π1 → Step (wd ⟨S, some a0⟩ (start N (.ref a0 :: ws)) (.pot :: initE ks ds n) H) (wd ⟨S, some a0⟩ σ' ρ' H') → RV K nw ⟨S, some a0⟩ (IsOwn (start N (.ref a0 :: ws)) (.pot :: initE ks ds n)) H v d1 H' → Q v H' := by
    intro v σ' H' ρ' R' s' rv
    refine q v H' (fun b o nb y => s'.keep b o (fun w => w.elim (fun w => nb (Option.some.inj w).symm) (noOwn b)) y) (R'.pt a0 rfl).2.2 ?_
    unfold RV at rv
    split at rv
    · rename_i c
      rw [if_pos c]
      obtain ⟨p, xs, es, e1, e2, e3, e4, e5, e6⟩ := rv
      exact ⟨p, xs, es, e1, e2, e3.elim (fun w => (noOwn p w).elim) id, e4, e5, e6⟩
    · rename_i c
      rw [if_neg c]
      exact rv
  rcases outOf_some e with ⟨ρ', e2⟩ | ⟨ρ', e2, e4⟩
  · exact h.go ⟨S, some a0⟩ _ H _ π R ρ' π1 _ e2 _ fun v σ' H' R' s' rv => fin v σ' H' ρ' R' s' rv
  · refine h.go ⟨S, some a0⟩ _ H _ π R ρ' π1 _ e2 _ fun σ' H' R' s' => fin .non σ' H' ρ' R' s' ?_
    have e4 : d1 = .none := e4
    subst e4
    unfold RV
    split
    · rename_i c
      exact (z c _ _ _ _ e2).elim
    · exact .non
/-! ### calls -/
structure GA (K : PySem.W.Frag) (ks : List Bool) (t : TA) (f : Ax) : Prop where
  go : ∀ (fr : Fm) (σ : L2.St) (H : Hp) (ρ : En) (π : Pot), Rel K fr σ H ρ π → ∀ ds π', f ρ π = some (ds, π') → ∀ Q : List V → Hp → Prop,
    (∀ vs H', Rel K fr σ H' ρ π' → ChgP fr H H' → ArgA K fr H' (wd fr σ ρ H').S ks vs ds → Q vs H') → t σ H Q
theorem ga_nil : GA K [] tNil aNil := ⟨fun fr σ H ρ π R d π' e Q q => by cases e; exact q _ H R (.refl _ _) trivial⟩
theorem ga_loose {ks : List Bool} {ta : TE} {tr : TA} {a : Ex} {r : Ax} (h : BF K ta a) (h2 : GA K ks tr r) : GA K (true :: ks) (tCons ta tr) (aCons a r) := by
  refine ⟨fun fr σ H ρ π R ds π' e Q q => ?_⟩
  obtain ⟨d, π1, es, ea, er, rfl⟩ := aCons_some e
  refine h.go fr σ H ρ π R d π1 ea _ fun v H1 R1 c1 dv => ?_
  exact h2.go fr σ H1 ρ π1 R1 es π' er _ fun vs H2 R2 c2 rv => q _ H2 R2 (c1.trans c2) ⟨by rw [if_pos rfl]; exact dv.chg R1 c2, rv⟩
theorem ga_strict {ks : List Bool} {ta : TE} {tr : TA} {a : Ex} {r : Ax} (h : EF K ta a) (h2 : GA K ks tr r) : GA K (false :: ks) (tCons ta tr) (aCons a r) := by
  refine ⟨fun fr σ H ρ π R ds π' e Q q => ?_⟩
  obtain ⟨d, π1, es, ea, er, rfl⟩ := aCons_some e
  refine h.go fr σ H ρ π R d π1 ea _ fun v H1 R1 c1 dv => ?_
  exact h2.go fr σ H1 ρ π1 R1 es π' er _ fun vs H2 R2 c2 rv => q _ H2 R2 (c1.trans c2) ⟨by rw [if_neg (by decide)]; exact dv.step R1.us (c2.step σ ρ), rv⟩
theorem Rel.ptS {fr : Fm} {σ : L2.St} {H : Hp} {ρ : En} {π : Pot} (R : Rel K fr σ H ρ π) : ∀ a, fr.pt = some a → (wd fr σ ρ H).S a := fun a h => .inl (R.pt a h).1
theorem ArgA.fr {fr fr' : Fm} (hp : fr'.pt = fr.pt) {H : Hp} {S : Addr → Prop} : ∀ {ks : List Bool} {vs : List V} {ds : List D}, ArgA K fr H S ks vs ds → ArgA K fr' H S ks vs ds
  | [], [], [], _ => trivial
  | k :: ks, v :: vs, d :: ds, h => by
    refine ⟨?_, ArgA.fr hp h.2⟩
    have h1 := h.1
    split
    · rename_i c
      rw [if_pos c] at h1
      rcases h1 with h1 | ⟨a, xs, es, e1, e2, e3⟩
      · exact .inl h1
      · exact .inr ⟨a, xs, es, e1, by rw [hp]; exact e2, e3⟩
    · rename_i c
      rw [if_neg c] at h1
      exact h1
theorem ef_call {ks : List Bool} {F : List D → Option D} {t : TA} {a : Ax} {E : XK} (h : GA K ks t a) : EF K (tCall (SpF K false ks F) [] E t) (xCb F a) := by
  refine ⟨fun fr σ H ρ π R d π' e Q q => ?_⟩
  obtain ⟨ds, ea, ed⟩ := xCb_some e
  refine h.go fr σ H ρ π R ds π' ea _ fun vs H1 R1 c1 av => ?_
  rw [List.append_nil]
  refine ⟨(wd fr σ ρ H1).S, fr.pt, ds, d, R1.sA, R1.ptS, ArgA.fr (fr := fr) (fr' := ⟨(wd fr σ ρ H1).S, fr.pt⟩) rfl av, ed, fun v H2 k2 dv => ?_⟩
  rw [if_neg (by decide)] at dv
  exact q v H2 (R1.kp k2) (c1.trans (.of k2)) dv
theorem nf_call {ks : List Bool} {F : List D → Option D} {t : TA} {a : Ax} {E : XK} (h : GA K ks t a) : NF K (tCall (SpF K true ks F) [] E t) (xCb F a) := by
  refine ⟨fun fr σ H ρ π R d π' e Q q => ?_⟩
  obtain ⟨ds, ea, ed⟩ := xCb_some e
  refine h.go fr σ H ρ π R ds π' ea _ fun vs H1 R1 c1 av => ?_
  rw [List.append_nil]
  refine ⟨(wd fr σ ρ H1).S, fr.pt, ds, d, R1.sA, R1.ptS, ArgA.fr (fr := fr) (fr' := ⟨(wd fr σ ρ H1).S, fr.pt⟩) rfl av, ed, fun v H2 k2 dv => ?_⟩
  rw [if_pos rfl] at dv
  exact q v H2 (R1.kp k2) (c1.trans (.of k2)) (dv.back fun p z => R1.back c1 z)
/-- f(pot, ..) -/
@[simp] def xCallP (i : Nat) (F : Pot → List D → Option (D × Pot)) (a : Ax) : Ex := fun ρ π => match ρ[i]? with
  | some .pot => (a ρ π).bind fun x => F x.2 x.1
  | _ => none
theorem potCall {nw : Bool} {ks : List Bool} {F : Pot → List D → Option (D × Pot)} {t : TA} {a : Ax} {E : XK} {i : Nat} (h : GA K ks t a) (fr : Fm) (σ : L2.St) (H : Hp) (ρ : En) (π : Pot) (R : Rel K fr σ H ρ π) (d : D) (π' : Pot)
    (e : xCallP i F a ρ π = some (d, π')) (Q : VK) (q : ∀ v H', Rel K fr σ H' ρ π' → ChgP fr H H' → (if nw = true then Dn K H H' (wd fr σ ρ H').S v d else Dv K H' (wd fr σ ρ H').S v d) → Q v H') : tCall (SpP K nw ks F) [] E (tCons (tVar i) t) σ H Q := by
  unfold xCallP at e
  split at e
  · rename_i hs
    cases ea : a ρ π with
    | none => rw [ea] at e; cases e
    | some x =>
      rw [ea] at e
      simp only [Option.bind_some] at e
      obtain ⟨a0, ev, ep⟩ := R.slot i _ hs
      refine ⟨_, ev, ?_⟩
      refine h.go fr σ H ρ π R x.1 x.2 ea _ fun vs H1 R1 c1 av => ?_
      show SpP K nw ks F ((V.ref a0 :: vs) ++ []) H1 Q E
      rw [List.append_nil]
      obtain ⟨p1, p2, p3⟩ := R1.pt a0 ep
      refine ⟨(wd fr σ ρ H1).S, a0, vs, x.2, x.1, d, π', rfl, R1.sA, .inl p1, p3, av.fr (fr' := ⟨(wd fr σ ρ H1).S, some a0⟩) ep.symm, e, fun v H2 b2 e2 dv => ?_⟩
      have c2 : ChgP fr H1 H2 := fun b o n z => b2 b o (fun w => n (by rw [w]; exact ep)) z
      have R2 : Rel K fr σ H2 ρ π' := R1.chg c2 fun b z => by
        rw [ep] at z; cases z; exact e2
      refine q v H2 R2 (c1.trans c2) ?_
      split
      · rename_i c
        rw [if_pos c] at dv
        exact dv.back fun p z => R1.back c1 z
      · rename_i c
        rw [if_neg c] at dv
        exact dv
  · cases e
theorem ef_callP {ks : List Bool} {F : Pot → List D → Option (D × Pot)} {t : TA} {a : Ax} {E : XK} {i : Nat} (h : GA K ks t a) : EF K (tCall (SpP K false ks F) [] E (tCons (tVar i) t)) (xCallP i F a) := by
  refine ⟨fun fr σ H ρ π R d π' e Q q => ?_⟩
  refine potCall (nw := false) h fr σ H ρ π R d π' e Q fun v H' R' c dv => ?_
  rw [if_neg (by decide)] at dv
  exact q v H' R' c dv
theorem nf_callP {ks : List Bool} {F : Pot → List D → Option (D × Pot)} {t : TA} {a : Ax} {E : XK} {i : Nat} (h : GA K ks t a) : NF K (tCall (SpP K true ks F) [] E (tCons (tVar i) t)) (xCallP i F a) := by
  refine ⟨fun fr σ H ρ π R d π' e Q q => ?_⟩
  refine potCall (nw := true) h fr σ H ρ π R d π' e Q fun v H' R' c dv => ?_
  rw [if_pos rfl] at dv
  exact q v H' R' c dv
/-- f(a=.., b=..): the values in the parameters' order -/
@[simp] def xCallK (F : List D → Option D) (g : List D → List D → List D) (a b : Ax) : Ex := fun ρ π => (a ρ π).bind fun x => (b ρ x.2).bind fun y => (F (g x.1 y.1)).map fun d => (d, y.2)
theorem kwCall {nw : Bool} {ks k1 k2 : List Bool} {F : List D → Option D} {t u : TA} {a b : Ax} {E : XK} {gV : List V → List V → List V} {g : List D → List D → List D} (h : GA K k1 t a) (h2 : GA K k2 u b)
    (hg : ∀ fr H S vs ws ds es, ArgA K fr H S k1 vs ds → ArgA K fr H S k2 ws es → ArgA K fr H S ks (gV vs ws) (g ds es)) (fr : Fm) (σ : L2.St) (H : Hp) (ρ : En) (π : Pot) (R : Rel K fr σ H ρ π) (d : D) (π' : Pot)
    (e : xCallK F g a b ρ π = some (d, π')) (Q : VK) (q : ∀ v H', Rel K fr σ H' ρ π' → ChgP fr H H' → (if nw = true then Dn K H H' (wd fr σ ρ H').S v d else Dv K H' (wd fr σ ρ H').S v d) → Q v H') : tCallK (SpF K nw ks F) gV E t u σ H Q := by
  unfold xCallK at e
  cases ea : a ρ π with
  | none => rw [ea] at e; cases e
  | some x =>
    rw [ea] at e
    simp only [Option.bind_some] at e
    cases eb : b ρ x.2 with
    | none => rw [eb] at e; cases e
    | some y =>
      rw [eb] at e
      simp only [Option.bind_some] at e
      cases ed : F (g x.1 y.1) with
      | none => rw [ed] at e; cases e
      | some z =>
        rw [ed] at e
        cases e
        refine h.go fr σ H ρ π R x.1 x.2 ea _ fun vs H1 R1 c1 av => ?_
        refine h2.go fr σ H1 ρ x.2 R1 y.1 y.2 eb _ fun ws H2 R2 c2 aw => ?_
        have av2 : ArgA K fr H2 (wd fr σ ρ H2).S k1 vs x.1 := by
          have : ∀ (ks : List Bool) (vs : List V) (ds : List D), ArgA K fr H1 (wd fr σ ρ H1).S ks vs ds → ArgA K fr H2 (wd fr σ ρ H2).S ks vs ds := by
            intro ks
            induction ks with
            | nil => intro vs ds h; cases vs <;> cases ds <;> first | trivial | exact h.elim
            | cons k ks ih =>
              intro vs ds h
              cases vs with
              | nil => cases ds <;> exact h.elim
              | cons v vs =>
                cases ds with
                | nil => exact h.elim
                | cons d ds =>
                  refine ⟨?_, ih vs ds h.2⟩
                  have h1 := h.1
                  split
                  · rename_i c
                    rw [if_pos c] at h1
                    exact h1.chg R1 c2
                  · rename_i c
                    rw [if_neg c] at h1
                    exact h1.step R1.us (c2.step σ ρ)
          exact this _ _ _ av
        refine ⟨(wd fr σ ρ H2).S, fr.pt, g x.1 y.1, d, R2.sA, R2.ptS, ArgA.fr (fr := fr) (fr' := ⟨(wd fr σ ρ H2).S, fr.pt⟩) rfl (hg fr H2 _ vs ws x.1 y.1 av2 aw), ed, fun v H3 k3 dv => ?_⟩
        refine q v H3 (R2.kp k3) (c1.trans (c2.trans (.of k3))) ?_
        split
        · rename_i c
          rw [if_pos c] at dv
          exact dv.back fun p z => R1.back c1 (R2.back c2 z)
        · rename_i c
          rw [if_neg c] at dv
          exact dv
theorem ef_callK {ks k1 k2 : List Bool} {F : List D → Option D} {t u : TA} {a b : Ax} {E : XK} {gV : List V → List V → List V} {g : List D → List D → List D} (h : GA K k1 t a) (h2 : GA K k2 u b)
    (hg : ∀ fr H S vs ws ds es, ArgA K fr H S k1 vs ds → ArgA K fr H S k2 ws es → ArgA K fr H S ks (gV vs ws) (g ds es)) : EF K (tCallK (SpF K false ks F) gV E t u) (xCallK F g a b) := by
  refine ⟨fun fr σ H ρ π R d π' e Q q => ?_⟩
  refine kwCall (nw := false) h h2 hg fr σ H ρ π R d π' e Q fun v H' R' c dv => ?_
  rw [if_neg (by decide)] at dv
  exact q v H' R' c dv
theorem nf_callK {ks k1 k2 : List Bool} {F : List D → Option D} {t u : TA} {a b : Ax} {E : XK} {gV : List V → List V → List V} {g : List D → List D → List D} (h : GA K k1 t a) (h2 : GA K k2 u b)
    (hg : ∀ fr H S vs ws ds es, ArgA K fr H S k1 vs ds → ArgA K fr H S k2 ws es → ArgA K fr H S ks (gV vs ws) (g ds es)) : NF K (tCallK (SpF K true ks F) gV E t u) (xCallK F g a b) := by
  refine ⟨fun fr σ H ρ π R d π' e Q q => ?_⟩
  refine kwCall (nw := true) h h2 hg fr σ H ρ π R d π' e Q fun v H' R' c dv => ?_
  rw [if_pos rfl] at dv
  exact q v H' R' c dv
end FL

noncomputable section
namespace FL
open PySem PySem.Spec PyProof.Rows L2 EP
variable {K : PySem.W.Frag}
/-! ### x *= e, x //= e, x %= e -/
theorem iop_mulX {X : Cx} : OpR X (inplaceOp .Mult) (rI CMulW fun i j => .int (i * j)) := opI fun _ _ _ _ _ _ _ hc q => imul_int q hc.ok
theorem iop_fdivX {X : Cx} : OpR X (inplaceOp .FloorDiv) (rI CDivX fun i j => .int (i.fdiv j)) := opI fun i j _ _ _ _ _ hc q => by
  refine ifloordiv_int hc.1 q (.inl (PyProof.noPylong_of_log2 ?_))
  have := log2Lt (show 0 < 8000 by decide) hc.2
  omega
theorem iop_modX {X : Cx} : OpR X (inplaceOp .Mod) (rI (fun _ j => j ≠ 0) fun i j => .int (i.fmod j)) := opI fun _ _ _ _ _ _ _ hc q => imod_int hc q
@[simp] def mulI : F2 := intF mulOk fun i j => .int (i * j)
theorem of_mulI : OF K (rI CMulW fun i j => .int (i * j)) mulI := of_int (fun i j h => by
  have c2 : i.natAbs.log2 + j.natAbs.log2 < 1000000 := of_cdec h
  exact c2) (fun _ _ _ => rfl)
/-! ### xs.extend(ys), xs += ys -/
theorem Rel.ext {fr : Fm} {σ : L2.St} {H : Hp} {ρ : En} {π : Pot} (R : Rel K fr σ H ρ π) {i : Nat} {ds es : List D} {a : Addr} {xs ys : List V} (hs : ρ[i]? = some (.own ds)) (ev : σ[i]? = some (some (.ref a))) (dv : DvA K H (wd fr σ ρ H).S xs ds) (dw : DvA K H (wd fr σ ρ H).S ys es) :
    Rel K fr σ (upd H a (.lst (xs ++ ys))) (ρ.set i (.own (ds ++ es))) π ∧ Step (wd fr σ ρ H) (wd fr σ (ρ.set i (.own (ds ++ es))) (upd H a (.lst (xs ++ ys)))) := by
  have oa : IsOwn σ ρ a := ⟨i, _, hs, rfl, ev⟩
  have upq : Step ⟨fun b => b = a, (wd fr σ ρ H).S, H⟩ ⟨fun b => b = a, (wd fr σ ρ H).S, upd H a (.lst (xs ++ ys))⟩ :=
    ⟨fun b u n z => by show L2.upd H a _ b = _; rw [upd_ne n]; exact z, fun b z => .inl z, fun b z => .inl z⟩
  have us2 : ∀ b, b = a → (wd fr σ ρ H).S b := fun b z => .inr (by rw [z]; exact oa)
  exact R.put hs rfl rfl ev ⟨a, xs ++ ys, ev, upd_same, (dv.append dw).step (A := ⟨fun b => b = a, (wd fr σ ρ H).S, H⟩) us2 upq⟩
@[simp] def sExt (i : Nat) (f : Ex) : Sx := fun ρ π => (f ρ π).bind fun y => match ρ[i]?, y.1 with
  | some (.own ds), .list es => if ds.length + es.length ≤ 100000 then some (ρ.set i (.own (ds ++ es)), y.2, .nx) else none
  | _, _ => none
theorem sf_ext {nw : Bool} {i : Nat} {te : TE} {f : Ex} (h : NF K te f) : SF K nw (tDrop (tBM K "list" rExtend (tVar i) (tCons te tNil))) (sExt i f) := by
  refine ⟨fun fr σ H ρ π R ρ' π' o e D q => ?_⟩
  unfold sExt at e
  cases ef : f ρ π with
  | none => rw [ef] at e; cases e
  | some y =>
    rw [ef] at e
    simp only [Option.bind_some] at e
    split at e
    · rename_i ds es hs hy
      split at e
      · rename_i ln
        cases e
        obtain ⟨a, xs, ev, ea, dv⟩ := R.slot i _ hs
        refine ⟨_, ev, .inl ⟨rfl, xs, sqL ea⟩, ?_⟩
        refine h.go fr σ H ρ π R y.1 y.2 ef _ fun v H1 R1 c1 b => ?_
        rw [hy] at b
        obtain ⟨p, ys, es', rfl, e2, _, e4, _, e6⟩ := b
        cases e2
        obtain ⟨a', xs', ev', ea', dv'⟩ := R1.slot i _ hs
        rw [ev] at ev'
        cases ev'
        have dw := e6.weak (S' := (wd fr σ ρ H1).S) fun a z => .inl z
        refine ⟨a, p, xs', ys, rfl, rfl, ea', e4, by rw [dv'.length, dw.length]; exact szOk ln, ?_⟩
        obtain ⟨R2, s2⟩ := R1.ext hs ev dv' dw
        exact q σ _ R2 ((c1.step σ ρ).trans R.us s2)
      · cases e
    · cases e
/-- xs += [..] -/
theorem sf_augx {nw : Bool} {i : Nat} {te : TE} {f : Ex} (h : NF K te f) : SF K nw (tAug i te rExt2) (sExt i f) := by
  refine ⟨fun fr σ H ρ π R ρ' π' o e D q => ?_⟩
  unfold sExt at e
  cases ef : f ρ π with
  | none => rw [ef] at e; cases e
  | some y =>
    rw [ef] at e
    simp only [Option.bind_some] at e
    split at e
    · rename_i ds es hs hy
      split at e
      · rename_i ln
        cases e
        obtain ⟨a, xs, ev, ea, dv⟩ := R.slot i _ hs
        refine ⟨_, ev, ?_⟩
        refine h.go fr σ H ρ π R y.1 y.2 ef _ fun v H1 R1 c1 b => ?_
        rw [hy] at b
        obtain ⟨p, ys, es', rfl, e2, _, e4, _, e6⟩ := b
        cases e2
        obtain ⟨a', xs', ev', ea', dv'⟩ := R1.slot i _ hs
        rw [ev] at ev'
        cases ev'
        have dw := e6.weak (S' := (wd fr σ ρ H1).S) fun a z => .inl z
        refine ⟨a, p, xs', ys, rfl, rfl, ea', e4, by rw [dv'.length, dw.length]; exact szOk ln, ?_⟩
        obtain ⟨R2, s2⟩ := R1.ext hs ev dv' dw
        have l : i < σ.length := (List.getElem?_eq_some_iff.mp ev).1
        have es : σ.set i (some (.ref a)) = σ := by
          refine List.ext_getElem? fun j => ?_
          by_cases z : i = j
          · subst z; rw [List.getElem?_set_self l, ev]
          · rw [List.getElem?_set_ne z]
        rw [es]
        exact q σ _ R2 ((c1.step σ ρ).trans R.us s2)
      · cases e
    · cases e
/-! ### a body that never falls through -/
def NN (b : Sx) : Prop := ∀ ρ π ρ' π', b ρ π = some (ρ', π', .nx) → False
theorem nn_never : NN sNever := fun _ _ _ _ e => by cases e
theorem nn_ret {f : Ex} : NN (sRet f) := fun ρ π ρ' π' e => by
  obtain ⟨d, π1, _, e2⟩ := sRet_some e
  cases e2
theorem nn_retO {i : Nat} : NN (sRetO i) := fun ρ π ρ' π' e => by
  unfold sRetO at e
  split at e <;> cases e
theorem nn_seq {g h : Sx} (n : NN h) : NN (sSeq g h) := fun ρ π ρ' π' e => by
  unfold sSeq at e
  cases eg : g ρ π with
  | none => rw [eg] at e; cases e
  | some x =>
    obtain ⟨ρ1, π1, o1⟩ := x
    rw [eg] at e
    cases o1 with
    | nx => exact n _ _ _ _ e
    | bk => cases e
    | ct => cases e
    | rt d => cases e
theorem nn_if {c : Tx} {g h : Sx} (n : NN g) (n2 : NN h) : NN (sIf c g h) := fun ρ π ρ' π' e => by
  unfold sIf at e
  cases ec : c ρ π with
  | none => rw [ec] at e; cases e
  | some x =>
    rw [ec] at e
    simp only [Option.bind_some] at e
    split at e
    · exact n _ _ _ _ e
    · exact n2 _ _ _ _ e
theorem nn_frz {g : Sx} {i : Nat} (n : NN g) : NN (fun ρ π => g (frz i ρ) π) := fun ρ π ρ' π' e => n _ _ _ _ e
end FL

noncomputable section
namespace FL
open PySem PySem.Spec PyProof.Rows L2 EP
variable {K : PySem.W.Frag}
/-! ### {} as data; repr -/
theorem ef_dnew : EF K tDNewK (xC (.dict [])) := ⟨fun fr σ H ρ π R d π' e Q q => by
  cases e
  intro p hp
  exact q _ _ (R.kp (upN hp)) (.of (upN hp)) (.dct0 upd_same fun z => R.sA p z hp)⟩
mutual
/-- data that can be written out in bounds -/
def okE : Nat → D → Bool
  | _, .none => true
  | _, .bool _ => true
  | _, .int i => decide (i.natAbs.log2 < 1900)
  | _, .str s => decide ((PyData.str s).shown.length ≤ 2002)
  | 0, _ => false
  | f + 1, .list xs => okEAll f xs
  | f + 1, .tuple xs => okEAll f xs
  | _, _ => false
def okEAll : Nat → List D → Bool
  | _, [] => true
  | f, x :: xs => okE f x && okEAll f xs
end
mutual
theorem okE_le : ∀ (f : Nat) (d : D), okE f d = true → d.shown.length + 2 ≤ 2004 * nodes d ∧ d.showable = true ∧ d.hasDict = false ∧ d.depth ≤ f
  | f, .none, _ => ⟨by decide, rfl, rfl, Nat.zero_le _⟩
  | f, .bool b, _ => ⟨by cases b <;> decide, rfl, rfl, Nat.zero_le _⟩
  | f, .int i, h => by
    have h1 : i.natAbs.log2 < 1900 := by simpa [okE] using h
    have h2 := intTextLe h1
    refine ⟨?_, ?_, rfl, Nat.zero_le _⟩
    · show (Str.ofString (toString i)).length + 2 ≤ 2004 * 1
      omega
    · show decide (i.natAbs.log2 < 1920) = true
      exact decide_eq_true (by omega)
  | f, .str s, h => by
    have h1 : (PyData.str s).shown.length ≤ 2002 := by simpa [okE] using h
    refine ⟨?_, rfl, rfl, Nat.zero_le _⟩
    show (PyData.str s).shown.length + 2 ≤ 2004 * 1
    omega
  | 0, .list _, h => by simp [okE] at h
  | 0, .tuple _, h => by simp [okE] at h
  | 0, .dict _, h => by simp [okE] at h
  | f + 1, .dict _, h => by simp [okE] at h
  | f + 1, .list xs, h => by
    have h1 : okEAll f xs = true := by simpa [okE] using h
    obtain ⟨a, b, c, e⟩ := okEAll_le f xs h1
    have h3 := listTextLe (PyData.shownAll xs)
    refine ⟨?_, b, c, ?_⟩
    · show (listText (PyData.shownAll xs)).length + 2 ≤ 2004 * (nodesAll xs + 1)
      omega
    · show PyData.depthAll xs + 1 ≤ f + 1
      omega
  | f + 1, .tuple xs, h => by
    have h1 : okEAll f xs = true := by simpa [okE] using h
    obtain ⟨a, b, c, e⟩ := okEAll_le f xs h1
    have h3 := fmt_text (PyData.shownAll xs)
    refine ⟨?_, b, c, ?_⟩
    · show (tupleText (PyData.shownAll xs)).length + 2 ≤ 2004 * (nodesAll xs + 1)
      omega
    · show PyData.depthAll xs + 1 ≤ f + 1
      omega
theorem okEAll_le : ∀ (f : Nat) (xs : List D), okEAll f xs = true → piled (PyData.shownAll xs) ≤ 2004 * nodesAll xs ∧ PyData.showableAll xs = true ∧ PyData.hasDictAll xs = false ∧ PyData.depthAll xs ≤ f
  | f, [], _ => ⟨by decide, rfl, rfl, Nat.zero_le _⟩
  | f, x :: xs, h => by
    have h1 : okE f x = true ∧ okEAll f xs = true := by simpa [okEAll] using h
    obtain ⟨a, b, c, e⟩ := okE_le f x h1.1
    obtain ⟨a2, b2, c2, e2⟩ := okEAll_le f xs h1.2
    refine ⟨?_, ?_, ?_, ?_⟩
    · show piled (PyData.shown x :: PyData.shownAll xs) ≤ 2004 * (nodes x + nodesAll xs)
      rw [piledC]
      omega
    · show (PyData.showable x && PyData.showableAll xs) = true
      rw [b, b2]; rfl
    · show (PyData.hasDict x || PyData.hasDictAll xs) = false
      rw [c, c2]; rfl
    · show max (PyData.depth x) (PyData.depthAll xs) ≤ f
      omega
end
/-- what Dv asks of a value, ahead of its being read as data of the kit: no dicts -/
def noD : D → Bool
  | .dict _ => false
  | _ => true
mutual
theorem Dv.dp' {H : Hp} {S : Addr → Prop} : ∀ {d : D} {v : V}, d.hasDict = false → Dv K H S v d → Dp K H v d
  | .none, _, _, h => by cases h; exact .non
  | .bool b, _, _, h => by cases h; exact .bl b
  | .int i, _, _, h => by cases h; exact .int i
  | .str s, _, _, h => by cases h; exact .str s
  | .list ds, _, c, h => by cases h with | lst e n r => exact .lst (sqL e) (DvA.dp' (by simpa [PyData.hasDict] using c) r)
  | .tuple ds, _, c, h => by cases h with | tup e r => exact .tup e.sq (DvA.dp' (by simpa [PyData.hasDict] using c) r)
  | .dict _, _, c, h => by simp [PyData.hasDict] at c
theorem DvA.dp' {H : Hp} {S : Addr → Prop} : ∀ {ds : List D} {vs : List V}, PyData.hasDictAll ds = false → DvA K H S vs ds → DpAll K H vs ds
  | [], _, _, h => by cases h; exact .nil
  | d :: ds, _, c, h => by
    have c2 : d.hasDict = false ∧ PyData.hasDictAll ds = false := by simpa [PyData.hasDictAll] using c
    cases h with | cons a b => exact .cons (Dv.dp' c2.1 a) (DvA.dp' c2.2 b)
end
theorem Db.dp' {fr : Fm} {H : Hp} {S : Addr → Prop} {v : V} {d : D} (c : d.hasDict = false) (h : Db K fr H S v d) : Dp K H v d := by
  rcases h with h | ⟨a, xs, ds, rfl, _, rfl, q, z⟩
  · exact h.dp' c
  · exact .lst (sqL q) (z.dp' (by simpa [PyData.hasDict] using c))
def rRepA (K : PySem.W.Frag) : List V → Hp → VK → Prop := fun xs H Q => ∃ v d, xs = [v] ∧ ((Dp K H v d ∧ okE 60 d = true ∧ nodes d ≤ 6000) ∨ (∃ a, v = .ref a ∧ H a = some (.dK []) ∧ d = .dict [])) ∧ Q (.str d.shown) H
theorem call_repA {X : Cx} (hg : X.A.guards = some []) (hu : X.A.units + 66 < cLine) : CallR X (.builtin "repr") (rRepA X.K) := by
  intro pins s σ H xs us Q I r h
  obtain ⟨v, d, rfl, hd, q⟩ := h
  rcases hd with ⟨hd, ok, nd⟩ | ⟨a, rfl, ea, rfl⟩
  · obtain ⟨h1, h2, h3, h4⟩ := okE_le 60 d ok
    have sz : d.shown.length ≤ sizeLine := by rw [sizeLine_eq]; omega
    obtain ⟨u, rfl, rv⟩ := vals1 r
    cases hd with
    | non =>
      obtain rfl : u = Value.none := rv
      exact PySem.P.repr_of_none ⟨.str _, H, I.tok _, ⟨_, rfl⟩, q⟩
    | bl b =>
      obtain rfl : u = Value.bool b := rv
      exact PySem.P.repr_of_bool ⟨.str _, H, I.tok _, ⟨_, rfl⟩, q⟩
    | int i =>
      obtain ⟨t, rfl⟩ := rv
      have h5 : i.natAbs.log2 < 1900 := by simpa [okE] using ok
      exact PySem.P.repr_of_int (by omega) ⟨.str _, H, I.tok _, ⟨_, rfl⟩, q⟩
    | str x =>
      obtain ⟨t, rfl⟩ := rv
      exact PySem.P.repr_of_str ⟨.str _, H, I.tok _, ⟨_, rfl⟩, q⟩ sz
    | lst hs ha => exact call_reprD hg hu pins s σ H _ _ Q I r ⟨_, _, rfl, .lst hs ha, h2, h3, by omega, sz, q⟩
    | tup hs ha => exact call_reprD hg hu pins s σ H _ _ Q I r ⟨_, _, rfl, .tup hs ha, h2, h3, by omega, sz, q⟩
  · obtain ⟨u, rfl, rv⟩ := vals1 r
    obtain rfl : u = .ref a := rv
    obtain ⟨_, sm, vs, kv, o, es, ep, ho, hx, hd, _, hp, _⟩ := dk_of I.hok ea
    cases kv
    have he : es.toList = [] := by
      cases e : es.toList with
      | nil => rfl
      | cons z zs => rw [e] at hp; cases hp
    have rd : Reads s.heap (.ref a) (.dict []) (a :: [] ++ []) := Reads.dict ho hx.1 hd (by rw [he]; exact ReadsAll.nil) (by rw [he]; exact ReadsAll.nil)
    refine repr_of_reads' rd (by rfl) (fun _ z => ?_) hg (by show X.A.units + (0 + 1 + 1) < cLine; omega) (fun _ _ z => z) (fun h2 u tk hk => ?_) (by decide +kernel)
    · have z2 : sysModules = a := by simpa using z
      rw [← z2] at sm
      simp at sm
    · exact ⟨.str _, H, I.kept hk, ⟨_, rfl⟩, q⟩
def repOk (d : D) : Bool := okE 60 d && decide (nodes d ≤ 6000)
@[simp] def reprF : F1 := fun ds => match ds with
  | [.dict []] => some (.str (PyData.dict []).shown)
  | [d] => if repOk d = true then some (.str d.shown) else none
  | _ => none
theorem cf_repr : CF K (rRepA K) reprF := ⟨fun fr H S al vs ds hx d e Q q => by
  unfold reprF at e
  split at e
  · cases e
    obtain ⟨v, rfl, h⟩ := dbA1 hx
    have h2 := h.flat (fun ds z => by cases z)
    cases h2 with
    | dct0 e n => exact ⟨_, _, rfl, .inr ⟨_, rfl, e, rfl⟩, q _ H (Kp.refl _) (.str _)⟩
  · split at e
    · rename_i c
      cases e
      obtain ⟨v, rfl, h⟩ := dbA1 hx
      unfold repOk at c
      rw [Bool.and_eq_true] at c
      have c2 := of_decide_eq_true c.2
      exact ⟨v, _, rfl, .inl ⟨h.dp' (okE_le 60 _ c.1).2.2.1, c.1, c2⟩, q _ H (Kp.refl _) (.str _)⟩
    · cases e
  · cases e⟩
/-! ### enumerate, zip -/
@[simp] def enumFrom : Nat → List D → List D
  | _, [] => []
  | k, d :: r => .tuple [.int (k : Nat), d] :: enumFrom (k + 1) r
theorem enumFrom_length : ∀ (k : Nat) (ds : List D), (enumFrom k ds).length = ds.length
  | _, [] => rfl
  | k, d :: r => congrArg (· + 1) (enumFrom_length (k + 1) r)
theorem enumFrom_get : ∀ {k : Nat} {ds : List D} {i : Nat} {e : D}, (enumFrom k ds)[i]? = some e → ∃ d, ds[i]? = some d ∧ e = .tuple [.int ((k + i : Nat) : Int), d]
  | k, d :: r, 0, e, h => by
    have h2 : some (PyData.tuple [.int (k : Nat), d]) = some e := h
    cases h2
    exact ⟨d, rfl, rfl⟩
  | k, d :: r, i + 1, e, h => by
    obtain ⟨d2, e1, e2⟩ := enumFrom_get (k := k + 1) (ds := r) (i := i) h
    refine ⟨d2, e1, ?_⟩
    rw [e2, show k + 1 + i = k + (i + 1) by omega]
@[simp] def iEn (f : Ex) : Ax := fun ρ π => (iL f ρ π).map fun x => (enumFrom 0 x.1, x.2)
theorem ite_ok {a : Addr} {xs : List V} {ds : List D} : ItOk K (Ite K a) (LPre K a xs ds) (enumFrom 0 ds) := by
  refine ⟨fun A B us h x => h.step us x, fun i A h l => ⟨xs, sqL h.1, by rw [h.2.2.length]; rw [enumFrom_length] at l; exact l⟩, fun i d A al h e => ?_⟩
  obtain ⟨d0, e0, rfl⟩ := enumFrom_get e
  obtain ⟨v, ev, dv⟩ := h.2.2.get e0
  refine ⟨⟨xs, v, sqL h.1, ev⟩, fun x H' y => ?_⟩
  obtain ⟨T, x0, rfl, hT, rfl, e2⟩ := y
  have e3 := e2 xs (sqL h.1)
  rw [ev] at e3
  cases e3
  refine ⟨upN hT, dvTup al hT ?_⟩
  rw [Nat.zero_add]
  exact .cons (.int _) (.cons dv .nil)
theorem if_enum {t : TE} {f : Ex} (h : LF K t f) : IF K (iEnum K (tCons t tNil)) (iEn f) := by
  refine ⟨fun fr σ H ρ π R ds π' e Q q => ?_⟩
  unfold iEn at e
  cases ei : iL f ρ π with
  | none => rw [ei] at e; cases e
  | some x =>
    rw [ei] at e
    cases e
    exact h.go fr σ H ρ π R x.1 x.2 (iL_some ei) _ fun a xs H' R' c p => ⟨a, xs, rfl, sqL p.1, q _ _ H' R' c ite_ok p⟩
/-- a list or a tuple that stands still -/
structure YF (K : PySem.W.Frag) (t : TE) (f : Ex) : Prop where
  go : ∀ (fr : Fm) (σ : L2.St) (H : Hp) (ρ : En) (π : Pot), Rel K fr σ H ρ π → ∀ d π', f ρ π = some (d, π') → ∀ Q : VK,
    (∀ v H', Rel K fr σ H' ρ π' → ChgP fr H H' → (∀ ds, d = .list ds → ∃ a xs, v = .ref a ∧ LPre K a xs ds (wd fr σ ρ H')) → (∀ ds, d = .tuple ds → ∃ a xs, v = .ref a ∧ TPre K a xs ds (wd fr σ ρ H')) → Q v H') → t σ H Q
theorem EF.yf {t : TE} {f : Ex} (h : EF K t f) : YF K t f := ⟨fun fr σ H ρ π R d π' e Q q => h.go fr σ H ρ π R d π' e Q fun v H' R' c dv => by
  refine q v H' R' c (fun ds z => ?_) fun ds z => ?_
  · subst z
    cases dv with
    | lst e n r => exact ⟨_, _, rfl, e, fun z => n (R'.us _ z), r⟩
  · subst z
    cases dv with
    | tup e r => exact ⟨_, _, rfl, e, r⟩⟩
theorem yf_var (i : Nat) : YF K (tVar i) (xLv i) := by
  refine ⟨fun fr σ H ρ π R d π' e Q q => ?_⟩
  unfold xLv at e
  split at e
  · rename_i s hs
    cases e
    obtain ⟨v, ev, dv⟩ := R.slot i _ hs
    refine ⟨_, ev, q v H R (.refl _ _) (fun ds z => ?_) fun ds z => ?_⟩
    · subst z
      cases dv with
      | lst e n r => exact ⟨_, _, rfl, e, fun z => n (R.us _ z), r⟩
    · subst z
      cases dv with
      | tup e r => exact ⟨_, _, rfl, e, r⟩
  · rename_i s hs
    cases e
    obtain ⟨a, xs, ev, ea, nu, dv⟩ := R.slot i _ hs
    refine ⟨_, ev, q _ H R (.refl _ _) (fun ds z => ?_) fun ds z => by cases z⟩
    cases z
    exact ⟨a, xs, rfl, ea, nu, dv⟩
  · cases e
@[simp] def zipD : List D → List D → List D
  | d :: ds, e :: es => .tuple [d, e] :: zipD ds es
  | _, _ => []
theorem zipD_stop : ∀ {ds es : List D} {i : Nat}, (zipD ds es).length ≤ i → ds.length ≤ i ∨ es.length ≤ i
  | [], _, i, h => .inl (Nat.zero_le _)
  | _ :: _, [], i, h => .inr (Nat.zero_le _)
  | d :: ds, e :: es, 0, h => by simp [zipD] at h
  | d :: ds, e :: es, i + 1, h => by
    have h2 : (zipD ds es).length ≤ i := by simpa [zipD] using h
    rcases zipD_stop h2 with z | z
    · exact .inl (by simpa using z)
    · exact .inr (by simpa using z)
theorem zipD_get : ∀ {ds es : List D} {i : Nat} {e : D}, (zipD ds es)[i]? = some e → ∃ a b, ds[i]? = some a ∧ es[i]? = some b ∧ e = .tuple [a, b]
  | [], _, i, e, h => by simp [zipD] at h
  | _ :: _, [], i, e, h => by simp [zipD] at h
  | d :: ds, f :: es, 0, e, h => by
    have h2 : some (PyData.tuple [d, f]) = some e := h
    cases h2
    exact ⟨d, f, rfl, rfl, rfl⟩
  | d :: ds, f :: es, i + 1, e, h => zipD_get (ds := ds) (es := es) (i := i) h
@[simp] def zipF : D → D → Option (List D)
  | .list a, .list b => some (zipD a b)
  | .tuple a, .tuple b => some (zipD a b)
  | _, _ => none
@[simp] def iZp (f g : Ex) : Ax := fun ρ π => (f ρ π).bind fun x => (g ρ x.2).bind fun y => (zipF x.1 y.1).map fun z => (z, y.2)
theorem itz_ok {a b : Addr} {xs ys : List V} {ds es : List D} : ItOk K (Itz K a b) (fun A => LPre K a xs ds A ∧ LPre K b ys es A) (zipD ds es) := by
  refine ⟨fun A B us h x => ⟨h.1.step us x, h.2.step us x⟩, fun i A h l => ⟨xs, ys, sqL h.1.1, sqL h.2.1, ?_⟩, fun i d A al h e => ?_⟩
  · rw [h.1.2.2.length, h.2.2.2.length]
    exact zipD_stop l
  · obtain ⟨d1, d2, e1, e2, rfl⟩ := zipD_get e
    obtain ⟨v, ev, dv⟩ := h.1.2.2.get e1
    obtain ⟨w, ew, dw⟩ := h.2.2.2.get e2
    refine ⟨⟨xs, ys, v, w, sqL h.1.1, sqL h.2.1, ev, ew⟩, fun x H' y => ?_⟩
    obtain ⟨T, x0, y0, rfl, hT, rfl, q1, q2⟩ := y
    have r1 := q1 xs (sqL h.1.1)
    have r2 := q2 ys (sqL h.2.1)
    rw [ev] at r1
    rw [ew] at r2
    cases r1; cases r2
    exact ⟨upN hT, dvTup al hT (.cons dv (.cons dw .nil))⟩
theorem itzT_ok {a b : Addr} {xs ys : List V} {ds es : List D} : ItOk K (RZ.ItzT K a b) (fun A => TPre K a xs ds A ∧ TPre K b ys es A) (zipD ds es) := by
  refine ⟨fun A B us h x => ⟨⟨h.1.1.step us x, h.1.2.step us x⟩, h.2.1.step us x, h.2.2.step us x⟩, fun i A h l => ⟨xs, ys, h.1.1.sq, h.2.1.sq, ?_⟩, fun i d A al h e => ?_⟩
  · rw [h.1.2.length, h.2.2.length]
    exact zipD_stop l
  · obtain ⟨d1, d2, e1, e2, rfl⟩ := zipD_get e
    obtain ⟨v, ev, dv⟩ := h.1.2.get e1
    obtain ⟨w, ew, dw⟩ := h.2.2.get e2
    refine ⟨⟨xs, ys, v, w, h.1.1.sq, h.2.1.sq, ev, ew⟩, fun x H' y => ?_⟩
    obtain ⟨T, x0, y0, rfl, hT, rfl, q1, q2⟩ := y
    have r1 := q1 xs h.1.1.sq
    have r2 := q2 ys h.2.1.sq
    rw [ev] at r1
    rw [ew] at r2
    cases r1; cases r2
    exact ⟨upN hT, dvTup al hT (.cons dv (.cons dw .nil))⟩
theorem if_zip {t u : TE} {f g : Ex} (h : YF K t f) (h2 : YF K u g) : IF K (RZ.iZipA K (tCons t (tCons u tNil))) (iZp f g) := by
  refine ⟨fun fr σ H ρ π R ds π' e Q q => ?_⟩
  unfold iZp at e
  cases ef : f ρ π with
  | none => rw [ef] at e; cases e
  | some x =>
    rw [ef] at e
    simp only [Option.bind_some] at e
    cases eg : g ρ x.2 with
    | none => rw [eg] at e; cases e
    | some y =>
      rw [eg] at e
      simp only [Option.bind_some] at e
      cases ez : zipF x.1 y.1 with
      | none => rw [ez] at e; cases e
      | some z =>
        rw [ez] at e
        cases e
        refine h.go fr σ H ρ π R x.1 x.2 ef _ fun v H1 R1 c1 l1 t1 => ?_
        refine h2.go fr σ H1 ρ x.2 R1 y.1 y.2 eg _ fun w H2 R2 c2 l2 t2 => ?_
        unfold zipF at ez
        split at ez
        · rename_i a b e1 e2
          cases ez
          obtain ⟨p, xs, rfl, p1⟩ := l1 a e1
          obtain ⟨r, ys, rfl, p2⟩ := l2 b e2
          have p1' := p1.step R1.us (c2.step σ ρ)
          exact ⟨p, r, xs, ys, rfl, .inl ⟨sqL p1'.1, sqL p2.1, q _ _ H2 R2 (c1.trans c2) itz_ok ⟨p1', p2⟩⟩⟩
        · rename_i a b e1 e2
          cases ez
          obtain ⟨p, xs, rfl, p1⟩ := t1 a e1
          obtain ⟨r, ys, rfl, p2⟩ := t2 b e2
          have p1' : TPre K p xs a (wd fr σ ρ H2) := ⟨p1.1.step R1.us (c2.step σ ρ), p1.2.step R1.us (c2.step σ ρ)⟩
          exact ⟨p, r, xs, ys, rfl, .inr ⟨p1'.1.sq, p2.1.sq, q _ _ H2 R2 (c1.trans c2) itzT_ok ⟨p1', p2⟩⟩⟩
        · cases ez
/-! ### sorted numbers; in -/
theorem perm_sorted_uniq : ∀ {xs ys : List Int}, xs.Perm ys → xs.Pairwise (· ≤ ·) → ys.Pairwise (· ≤ ·) → xs = ys := fun p a b => p.eq_of_pairwise (fun _ _ _ _ h1 h2 => Int.le_antisymm h1 h2) a b
def sortI (ns : List Int) : List Int := ns.mergeSort (fun a b => decide (a ≤ b))
theorem sortI_spec (ns : List Int) : (sortI ns).Perm ns ∧ (sortI ns).Pairwise (· ≤ ·) := by
  refine ⟨List.mergeSort_perm _ _, ?_⟩
  have h := List.pairwise_mergeSort (le := fun a b : Int => decide (a ≤ b)) (fun a b c h1 h2 => decide_eq_true (Int.le_trans (of_decide_eq_true h1) (of_decide_eq_true h2))) (fun a b => by
    rcases Int.le_total a b with h | h
    · simp [h]
    · simp [h]) ns
  exact h.imp fun h => of_decide_eq_true h
def sortedF : F1 := fun ds => match ds with
  | [.list a] => (intsO a).map fun ns => .list ((sortI ns).map PyData.int)
  | _ => none
theorem cn_sorted : CN K (rSortedI K) sortedF := ⟨fun fr H S al vs ds hx d e Q q => by
  unfold sortedF at e
  split at e
  · rename_i a
    cases ei : intsO a with
    | none => rw [ei] at e; cases e
    | some ns =>
      rw [ei] at e
      cases e
      obtain ⟨v, rfl, h⟩ := dbA1 hx
      obtain ⟨p, xs, rfl, ep, rp⟩ := h.list
      rw [ints_some ei] at rp
      obtain rfl := dvInts rp
      refine ⟨p, ns, rfl, sqL ep, fun ns' l pm so hl => ?_⟩
      obtain ⟨p2, s2⟩ := sortI_spec ns
      have e3 : ns' = sortI ns := perm_sorted_uniq (pm.trans p2.symm) so s2
      rw [e3]
      exact q _ _ (upN hl) (dnNew al hl (intsDv _))
  · cases e⟩
def rInA (K : PySem.W.Frag) (neg : Bool) : R2 := fun x y H Q => (if neg then rNotInD K x y H Q else rInD K x y H Q) ∨ rIn K neg x y H Q
theorem op_inA {X : Cx} (hu : X.A.units + 66 < cLine) : OpR X (compareOp .In) (rInA X.K false) := (op_inD (show X.A.units + 65 < cLine by omega)).or op_in_seq
def flatVD : D → V
  | .none => .non
  | .bool b => .bl b
  | .int i => .int i
  | .str s => .str s
  | _ => .non
theorem Db.flatV {fr : Fm} {H : Hp} {S : Addr → Prop} {v : V} {d : D} (h : Db K fr H S v d) (f : flatD d = true) : v = flatVD d ∧ L2.flatV v = true := by
  cases d with
  | none => obtain rfl := h.non; exact ⟨rfl, rfl⟩
  | bool b => obtain rfl := h.bool; exact ⟨rfl, rfl⟩
  | int b => obtain rfl := h.int; exact ⟨rfl, rfl⟩
  | str b => obtain rfl := h.str; exact ⟨rfl, rfl⟩
  | list _ => cases f
  | tuple _ => cases f
  | dict _ => cases f
theorem DvA.flat {fr : Fm} {H : Hp} {S : Addr → Prop} : ∀ {ds : List D} {vs : List V}, DvA K H S vs ds → ds.all flatD = true → vs = ds.map flatVD ∧ vs.all L2.flatV = true
  | [], _, h, _ => by cases h; exact ⟨rfl, rfl⟩
  | d :: ds, _, h, f => by
    have f2 : flatD d = true ∧ ds.all flatD = true := by simpa using f
    cases h with
    | cons a b =>
      obtain ⟨e1, e2⟩ := Db.flatV (fr := fr) (.inl a) f2.1
      obtain ⟨e3, e4⟩ := DvA.flat (fr := fr) b f2.2
      exact ⟨by rw [List.map_cons, ← e1, ← e3], by rw [List.all_cons, e2, e4]; rfl⟩
def inF : F2 := fun x y => match y with
  | .list ds => if SeqAt.shaped x = true ∧ SeqAt.shaped (.list ds) = true then some (.bool (ds.any fun z => PyData.eqv z x)) else none
  | .tuple ds => if flatD x = true ∧ ds.all flatD = true then some (.bool (inV (flatVD x) (ds.map flatVD))) else none
  | _ => none
theorem of_in : OF K (rInA K false) inF := ⟨fun fr H S al x y dx dy hx hy d e Q q => by
  unfold inF at e
  split at e
  · split at e
    · rename_i ds c
      cases e
      left
      rw [if_neg (by decide)]
      exact ⟨dx, ds, hx.dp (shaped_lay c.1), hy.dp (shaped_lay c.2), c.1, c.2, q _ H (Kp.refl _) (.bl _)⟩
    · cases e
  · split at e
    · rename_i ds c
      cases e
      right
      obtain ⟨p, xs, rfl, ep, rp⟩ := hy.tuple
      obtain ⟨e1, e2⟩ := hx.flatV c.1
      obtain ⟨e3, e4⟩ := DvA.flat (fr := fr) rp c.2
      refine ⟨p, xs, rfl, .inr ep.sq, e2, e4, ?_⟩
      rw [if_neg (by decide), e1, e3]
      exact q _ H (Kp.refl _) (.bl _)
    · cases e
  · cases e⟩
end FL

noncomputable section
namespace FL
open PySem PySem.Spec PyProof.Rows L2 EP
variable {K : PySem.W.Frag}
/-! ### a, b = x, [..]: some of the names get lists of their own -/
def plus (fr : Fm) (Ps : List Addr) : Fm := ⟨fun a => fr.S0 a ∨ a ∈ Ps, fr.pt⟩
theorem plus_nil (fr : Fm) : plus fr [] = fr := by
  unfold plus
  congr
  funext a
  simp
theorem plus_cons (fr : Fm) (p : Addr) (Ps : List Addr) : plus ⟨fun a => fr.S0 a ∨ a = p, fr.pt⟩ Ps = plus fr (p :: Ps) := by
  unfold plus
  congr
  funext a
  simp only [List.mem_cons, or_assoc]
def MV (K : PySem.W.Frag) (S : Addr → Prop) (H : Hp) : List Bool → List V → List D → List Addr → Prop
  | [], [], [], [] => True
  | k :: ks, v :: vs, d :: ds, Ps => if k = true then (∃ p Ps', Ps = p :: Ps' ∧ v = .ref p ∧ (∃ xs es, d = .list es ∧ H p = some (.lst xs) ∧ DvA K H S xs es) ∧ MV K S H ks vs ds Ps')
    else Dv K H S v d ∧ MV K S H ks vs ds Ps
  | _, _, _, _ => False
structure MF (K : PySem.W.Frag) (ks : List Bool) (t : TA) (f : Ax) : Prop where
  go : ∀ (fr : Fm) (σ : L2.St) (H : Hp) (ρ : En) (π : Pot), Rel K fr σ H ρ π → ∀ ds π', f ρ π = some (ds, π') → ∀ Q : List V → Hp → Prop,
    (∀ vs H' Ps, Rel K (plus fr Ps) σ H' ρ π' → ChgP fr H H' → (∀ p ∈ Ps, H p = none) → Ps.Nodup → MV K (wd (plus fr Ps) σ ρ H').S H' ks vs ds Ps → Q vs H') → t σ H Q
theorem mf_nil : MF K [] tNil aNil := ⟨fun fr σ H ρ π R d π' e Q q => by
  cases e
  exact q _ H [] (by rw [plus_nil]; exact R) (.refl _ _) (fun p h => by cases h) .nil trivial⟩
theorem mf_dat {ks : List Bool} {ta : TE} {tr : TA} {a : Ex} {r : Ax} (h : EF K ta a) (h2 : MF K ks tr r) : MF K (false :: ks) (tCons ta tr) (aCons a r) := by
  refine ⟨fun fr σ H ρ π R ds π' e Q q => ?_⟩
  obtain ⟨d, π1, es, ea, er, rfl⟩ := aCons_some e
  refine h.go fr σ H ρ π R d π1 ea _ fun v H1 R1 c1 dv => ?_
  refine h2.go fr σ H1 ρ π1 R1 es π' er _ fun vs H2 Ps R2 c2 np nd mv => ?_
  refine q _ H2 Ps R2 (c1.trans c2) (fun p z => R1.back c1 (np p z)) nd ?_
  show if false = true then _ else _
  rw [if_neg (by decide)]
  refine ⟨dv.step (A := wd fr σ ρ H1) (B := wd (plus fr Ps) σ ρ H2) R1.us ⟨fun b o n z => c2 b o (fun y => n (.inl y)) z, fun a z => .inl z, fun a z => ?_⟩, mv⟩
  rcases z with (z | z) | z
  · exact .inl (.inl z)
  · exact .inr (np a z)
  · exact .inl (.inr z)
theorem mf_new {ks : List Bool} {ta : TE} {tr : TA} {a : Ex} {r : Ax} (h : NF K ta a) (h2 : MF K ks tr r) : MF K (true :: ks) (tCons ta tr) (aCons a r) := by
  refine ⟨fun fr σ H ρ π R ds π' e Q q => ?_⟩
  obtain ⟨d, π1, es, ea, er, rfl⟩ := aCons_some e
  refine h.go fr σ H ρ π R d π1 ea _ fun v H1 R1 c1 dv => ?_
  obtain ⟨p, xs, ls, rfl, e2, h0, h1, ns, hd⟩ := dv
  obtain ⟨R2, st⟩ := R.keep (π' := π1) c1 h0 (by rw [h1]; intro z; cases z) fun a z => (R1.pt a z).2.2
  refine h2.go _ σ H1 ρ π1 R2 es π' er _ fun vs H2 Ps R3 c2 np nd mv => ?_
  rw [plus_cons] at R3 mv
  have npt : fr.pt ≠ some p := fun z => ns (.inl (R1.pt p z).1)
  have c2' : ChgP fr H1 H2 := c2
  refine q _ H2 (p :: Ps) R3 (c1.trans c2') (fun b z => ?_) (List.nodup_cons.mpr ⟨fun z => (by rw [np p z] at h1; cases h1), nd⟩) ?_
  · rcases List.mem_cons.mp z with z | z
    · rw [z]; exact h0
    · exact R1.back c1 (np b z)
  · show if true = true then _ else _
    rw [if_pos rfl]
    refine ⟨p, Ps, rfl, rfl, ⟨xs, ls, e2, c2 _ _ npt h1, ?_⟩, mv⟩
    refine hd.step (A := ⟨(wd fr σ ρ H1).U, fun b => (wd fr σ ρ H1).S b ∨ b = p, H1⟩) (B := ⟨(wd fr σ ρ H1).U, (wd (plus fr (p :: Ps)) σ ρ H2).S, H2⟩) (fun b z => .inl (R1.us b z)) ⟨fun b o n z => c2 b o (fun y => n (.inl y)) z, fun a z => .inl z, fun a z => ?_⟩
    rcases z with (z | z) | z
    · exact .inl (.inl (.inl z))
    · rcases List.mem_cons.mp z with z | z
      · exact .inl (.inr z)
      · exact .inr (np a z)
    · exact .inl (.inl (.inr z))
/-- a list that is kept apart becomes a name's own -/
theorem Rel.adopt {fr : Fm} {σ : L2.St} {H : Hp} {ρ : En} {π : Pot} {p : Addr} {Ps : List Addr} (R : Rel K (plus fr (p :: Ps)) σ H ρ π) {i : Nat} {xs : List V} {ds : List D} (nd : p ∉ Ps) (n0 : ¬ fr.S0 p) (npt : fr.pt ≠ some p)
    (h1 : H p = some (.lst xs)) (h2 : DvA K H (wd (plus fr (p :: Ps)) σ ρ H).S xs ds)
    (ha : ∀ (j : Nat) (es : List D) (a : Addr), ρ[j]? = some (.arg es) → σ[j]? = some (some (.ref a)) → a ≠ p) (hs : hasScr ρ = false) :
    Rel K (plus fr Ps) (σ.set i (some (.ref p))) H (ρ.set i (.own ds)) π ∧ (∀ a, IsOwn (σ.set i (some (.ref p))) (ρ.set i (.own ds)) a → IsOwn σ ρ a ∨ a = p) := by
  have pS : (plus fr (p :: Ps)).S0 p := .inr List.mem_cons_self
  have nown : ¬ IsOwn σ ρ p := fun z => R.os p z pS
  have ow : ∀ a, IsOwn (σ.set i (some (.ref p))) (ρ.set i (.own ds)) a → IsOwn σ ρ a ∨ a = p := by
    rintro a ⟨j, s, e, o, q⟩
    by_cases z : i = j
    · subst z
      rw [List.getElem?_set_self'] at q
      cases y : σ[i]? with
      | none => rw [y] at q; cases q
      | some w =>
        rw [y] at q
        have q2 : some (V.ref p) = some (V.ref a) := Option.some.inj q
        cases q2
        exact .inr rfl
    · rw [List.getElem?_set_ne z] at e q
      exact .inl ⟨j, s, e, o, q⟩
  have wS : ∀ a, (wd (plus fr Ps) (σ.set i (some (.ref p))) (ρ.set i (.own ds)) H).S a → (wd (plus fr (p :: Ps)) σ ρ H).S a := fun a z => by
    rcases z with (z | z) | z
    · exact .inl (.inl z)
    · exact .inl (.inr (List.mem_cons_of_mem _ z))
    · rcases ow a z with z | z
      · exact .inr z
      · exact .inl (.inr (by rw [z]; exact List.mem_cons_self))
  refine ⟨⟨by simp [R.len], fun j s e => ?_, fun j k s t a e1 e2 o1 o2 q1 q2 => ?_, fun a z => R.all a ?_, fun a z => ?_, fun a z => ?_⟩, ow⟩
  · by_cases z : i = j
    · subst z
      have l : i < ρ.length := by
        have := (List.getElem?_eq_some_iff.mp e).1
        simpa using this
      rw [List.getElem?_set_self l] at e
      cases e
      exact ⟨p, xs, by rw [List.getElem?_set_self (by rw [R.len]; exact l)], h1, h2.weak wS⟩
    · rw [List.getElem?_set_ne z] at e ⊢
      have sl := R.slot j s e
      cases s with
      | un => trivial
      | dat d => obtain ⟨v, e, q⟩ := sl; exact ⟨v, e, q.weak wS⟩
      | arg es =>
        obtain ⟨a, ys, e3, q, n, r⟩ := sl
        refine ⟨a, ys, e3, q, fun y => ?_, r.weak wS⟩
        rcases y with y | y
        · exact n (.inl y)
        · rcases ow a y with y | y
          · exact n (.inr y)
          · exact ha j es a e e3 y
      | own es => obtain ⟨a, ys, e3, q, r⟩ := sl; exact ⟨a, ys, e3, q, r.weak wS⟩
      | dct kvs => obtain ⟨a, ys, e3, q, m, r⟩ := sl; exact ⟨a, ys, e3, q, m, r.weak wS⟩
      | pot => exact sl
      | scr ns => exact (noScr hs e).elim
  · by_cases d1 : i = j
    · by_cases d2 : i = k
      · rw [← d1, ← d2]
      · exfalso
        subst d1
        rw [List.getElem?_set_self'] at q1
        rw [List.getElem?_set_ne d2] at e2 q2
        cases y : σ[i]? with
        | none => rw [y] at q1; cases q1
        | some w =>
          rw [y] at q1
          have q3 : some (V.ref p) = some (V.ref a) := Option.some.inj q1
          cases q3
          exact nown ⟨k, t, e2, o2, q2⟩
    · by_cases d2 : i = k
      · exfalso
        subst d2
        rw [List.getElem?_set_self'] at q2
        rw [List.getElem?_set_ne d1] at e1 q1
        cases y : σ[i]? with
        | none => rw [y] at q2; cases q2
        | some w =>
          rw [y] at q2
          have q3 : some (V.ref p) = some (V.ref a) := Option.some.inj q2
          cases q3
          exact nown ⟨j, s, e1, o1, q1⟩
      · rw [List.getElem?_set_ne d1] at e1 q1
        rw [List.getElem?_set_ne d2] at e2 q2
        exact R.nd j k s t a e1 e2 o1 o2 q1 q2
  · rcases z with z | z
    · exact .inl z
    · exact .inr (List.mem_cons_of_mem _ z)
  · obtain ⟨p1, p2, p3⟩ := R.pt a z
    refine ⟨?_, fun y => ?_, p3⟩
    · rcases p1 with p1 | p1
      · exact .inl p1
      · rcases List.mem_cons.mp p1 with p1 | p1
        · exact absurd z (by rw [p1]; exact npt)
        · exact .inr p1
    · rcases ow a y with y | y
      · exact p2 y
      · exact npt (by rw [← y]; exact z)
  · rcases ow a z with z | z
    · exact fun y => R.os a z (y.imp id (List.mem_cons_of_mem _))
    · rw [z]
      rintro (y | y)
      · exact n0 y
      · exact nd y
def setAll : L2.St → List Nat → List V → L2.St
  | σ, i :: is, v :: vs => setAll (σ.set i (some v)) is vs
  | σ, _, _ => σ
@[simp] def asgAll : En → List Nat → List Bool → List D → Option En
  | ρ, i :: is, k :: ks, d :: ds => if k = true then (match d with
      | .list es => if hasScr ρ = true then none else asgAll (ρ.set i (.own es)) is ks ds
      | _ => none) else asgAll (ρ.set i (.dat d)) is ks ds
  | ρ, [], [], [] => some ρ
  | _, _, _, _ => none
theorem arg_set {ρ : En} {σ : L2.St} {i : Nat} {s : Slot} {o : Option V} {Ps : List Addr} (ns : ∀ es, s ≠ .arg es) (ha : ∀ (j : Nat) (es : List D) (a : Addr), ρ[j]? = some (.arg es) → σ[j]? = some (some (.ref a)) → a ∉ Ps) :
    ∀ (j : Nat) (es : List D) (a : Addr), (ρ.set i s)[j]? = some (.arg es) → (σ.set i o)[j]? = some (some (.ref a)) → a ∉ Ps := by
  intro j es a e1 e2
  by_cases z : i = j
  · subst z
    rw [List.getElem?_set_self'] at e1
    cases y : ρ[i]? with
    | none => rw [y] at e1; cases e1
    | some w =>
      rw [y] at e1
      have e3 : s = .arg es := Option.some.inj e1
      exact absurd e3 (ns es)
  · rw [List.getElem?_set_ne z] at e1 e2
    exact ha j es a e1 e2
theorem Rel.many {fr : Fm} {H : Hp} {π : Pot} : ∀ {is : List Nat} {ks : List Bool} {vs : List V} {ds : List D} {Ps : List Addr} {σ : L2.St} {ρ ρ' : En}, Rel K (plus fr Ps) σ H ρ π → Ps.Nodup → (∀ p ∈ Ps, ¬ fr.S0 p) → (∀ p ∈ Ps, fr.pt ≠ some p) →
    (∀ (j : Nat) (es : List D) (a : Addr), ρ[j]? = some (.arg es) → σ[j]? = some (some (.ref a)) → a ∉ Ps) → MV K (wd (plus fr Ps) σ ρ H).S H ks vs ds Ps → asgAll ρ is ks ds = some ρ' →
    Rel K fr (setAll σ is vs) H ρ' π ∧ ∀ a, IsOwn (setAll σ is vs) ρ' a → IsOwn σ ρ a ∨ a ∈ Ps
  | [], [], [], [], [], σ, ρ, ρ', R, _, _, _, _, _, e => by
    cases e
    rw [plus_nil] at R
    exact ⟨R, fun a h => .inl h⟩
  | i :: is, k :: ks, v :: vs, d :: ds, Ps, σ, ρ, ρ', R, nd, n0, npt, ha, mv, e => by
    have mv : if k = true then _ else _ := mv
    have e : (if k = true then _ else _) = _ := e
    by_cases c : k = true
    · rw [if_pos c] at mv e
      obtain ⟨p, Ps', rfl, rfl, ⟨xs, es, rfl, h1, h2⟩, mv2⟩ := mv
      have hs : hasScr ρ = false := by
        cases z : hasScr ρ with
        | false => rfl
        | true => simp [z] at e
      simp only [hs, Bool.false_eq_true, if_false] at e
      have nd2 := List.nodup_cons.mp nd
      obtain ⟨R2, ow⟩ := R.adopt (i := i) nd2.1 (n0 p List.mem_cons_self) (npt p List.mem_cons_self) h1 h2 (fun j es a e1 e2 z => ha j es a e1 e2 (by rw [z]; exact List.mem_cons_self)) hs
      have wS : ∀ a, (wd (plus fr Ps') (σ.set i (some (.ref p))) (ρ.set i (.own es)) H).S a → (wd (plus fr (p :: Ps')) σ ρ H).S a := fun a z => by
        rcases z with (z | z) | z
        · exact .inl (.inl z)
        · exact .inl (.inr (List.mem_cons_of_mem _ z))
        · rcases ow a z with z | z
          · exact .inr z
          · exact .inl (.inr (by rw [z]; exact List.mem_cons_self))
      have mw : ∀ {ks : List Bool} {vs : List V} {ds : List D} {Qs : List Addr}, MV K (wd (plus fr (p :: Ps')) σ ρ H).S H ks vs ds Qs → MV K (wd (plus fr Ps') (σ.set i (some (.ref p))) (ρ.set i (.own es)) H).S H ks vs ds Qs := by
        intro ks
        induction ks with
        | nil => intro vs ds Qs h; cases vs <;> cases ds <;> cases Qs <;> first | trivial | exact h.elim
        | cons k ks ih =>
          intro vs ds Qs h
          cases vs with
          | nil => exact h.elim
          | cons v vs =>
            cases ds with
            | nil => exact h.elim
            | cons d ds =>
              have h : if k = true then _ else _ := h
              show if k = true then _ else _
              by_cases c : k = true
              · rw [if_pos c] at h ⊢
                obtain ⟨p2, Q2, e1, e2, ⟨xs, es2, e3, e4, e5⟩, h2⟩ := h
                exact ⟨p2, Q2, e1, e2, ⟨xs, es2, e3, e4, e5.weak wS⟩, ih h2⟩
              · rw [if_neg c] at h ⊢
                exact ⟨h.1.weak wS, ih h.2⟩
      obtain ⟨R3, ow3⟩ := Rel.many R2 nd2.2 (fun q z => n0 q (List.mem_cons_of_mem _ z)) (fun q z => npt q (List.mem_cons_of_mem _ z))
        (arg_set (fun es z => by cases z) fun j es a e1 e2 z => ha j es a e1 e2 (List.mem_cons_of_mem _ z)) (mw mv2) e
      refine ⟨R3, fun a z => ?_⟩
      rcases ow3 a z with z | z
      · rcases ow a z with z | z
        · exact .inl z
        · exact .inr (by rw [z]; exact List.mem_cons_self)
      · exact .inr (List.mem_cons_of_mem _ z)
    · rw [if_neg c] at mv e
      obtain ⟨R2, st⟩ := R.set (i := i) mv.1
      have ow : ∀ a, IsOwn (σ.set i (some v)) (ρ.set i (.dat d)) a → IsOwn σ ρ a := fun a h => own_set rfl h
      have wS : ∀ a, (wd (plus fr Ps) (σ.set i (some v)) (ρ.set i (.dat d)) H).S a → (wd (plus fr Ps) σ ρ H).S a := fun a z => z.imp id (ow a)
      have mw : ∀ {ks : List Bool} {vs : List V} {ds : List D} {Qs : List Addr}, MV K (wd (plus fr Ps) σ ρ H).S H ks vs ds Qs → MV K (wd (plus fr Ps) (σ.set i (some v)) (ρ.set i (.dat d)) H).S H ks vs ds Qs := by
        intro ks
        induction ks with
        | nil => intro vs ds Qs h; cases vs <;> cases ds <;> cases Qs <;> first | trivial | exact h.elim
        | cons k ks ih =>
          intro vs ds Qs h
          cases vs with
          | nil => exact h.elim
          | cons v vs =>
            cases ds with
            | nil => exact h.elim
            | cons d ds =>
              have h : if k = true then _ else _ := h
              show if k = true then _ else _
              by_cases c : k = true
              · rw [if_pos c] at h ⊢
                obtain ⟨p2, Q2, e1, e2, ⟨xs, es2, e3, e4, e5⟩, h2⟩ := h
                exact ⟨p2, Q2, e1, e2, ⟨xs, es2, e3, e4, e5.weak wS⟩, ih h2⟩
              · rw [if_neg c] at h ⊢
                exact ⟨h.1.weak wS, ih h.2⟩
      obtain ⟨R3, ow3⟩ := Rel.many R2 nd n0 npt (arg_set (fun es z => by cases z) ha) (mw mv.2) e
      exact ⟨R3, fun a z => (ow3 a z).imp (ow a) id⟩
theorem MF.fin {ks : List Bool} {t : TA} {f : Ax} (h : MF K ks t f) {fr : Fm} {σ : L2.St} {H : Hp} {ρ : En} {π : Pot} (R : Rel K fr σ H ρ π) {ds : List D} {π' : Pot} (e : f ρ π = some (ds, π')) {is : List Nat} {ρ' : En} (ea : asgAll ρ is ks ds = some ρ')
    {Q : List V → Hp → Prop} (q : ∀ vs H', vs.length = ks.length → Rel K fr (setAll σ is vs) H' ρ' π' → Step (wd fr σ ρ H) (wd fr (setAll σ is vs) ρ' H') → Q vs H') : t σ H Q := by
  refine h.go fr σ H ρ π R ds π' e Q fun vs H' Ps R' c np nd mv => ?_
  have n0 : ∀ p ∈ Ps, ¬ fr.S0 p := fun p z y => R.all p y (np p z)
  have npt : ∀ p ∈ Ps, fr.pt ≠ some p := fun p z y => n0 p z (R.pt p y).1
  obtain ⟨R3, ow⟩ := R'.many (fr := fr) nd n0 npt (fun j es a e1 e2 z => by
    obtain ⟨a', xs, e3, e4, _⟩ := R.slot j _ e1
    rw [e2] at e3
    cases e3
    have e4 : H a = _ := e4
    rw [np a z] at e4; cases e4) mv ea
  have ln : ∀ {ks : List Bool} {vs : List V} {ds : List D} {Qs : List Addr} {S : Addr → Prop}, MV K S H' ks vs ds Qs → vs.length = ks.length := by
    intro ks
    induction ks with
    | nil => intro vs ds Qs S h; cases vs <;> cases ds <;> cases Qs <;> first | rfl | exact h.elim
    | cons k ks ih =>
      intro vs ds Qs S h
      cases vs with
      | nil => exact h.elim
      | cons v vs =>
        cases ds with
        | nil => exact h.elim
        | cons d ds =>
          have h : if k = true then _ else _ := h
          by_cases c : k = true
          · rw [if_pos c] at h
            obtain ⟨_, _, _, _, _, h2⟩ := h
            exact congrArg (· + 1) (ih h2)
          · rw [if_neg c] at h
            exact congrArg (· + 1) (ih h.2)
  refine q vs H' (ln mv) R3 ⟨fun b o n z => c b o (fun y => n (.inl y)) z, fun a z => ?_, fun a z => ?_⟩
  · rcases z with z | z
    · exact .inl (.inl z)
    · rcases ow a z with z | z
      · exact .inl (.inr z)
      · exact .inr (np a z)
  · rcases z with z | z
    · exact .inl (.inl z)
    · rcases ow a z with z | z
      · exact .inl (.inr z)
      · exact .inr (np a z)
@[simp] def sMany (is : List Nat) (ks : List Bool) (a : Ax) : Sx := fun ρ π => (a ρ π).bind fun x => (asgAll ρ is ks x.1).map fun ρ' => (ρ', x.2, .nx)
theorem sMany_some {is : List Nat} {ks : List Bool} {a : Ax} {ρ : En} {π : Pot} {r : En × Pot × Out} (e : sMany is ks a ρ π = some r) : ∃ ds π' ρ', a ρ π = some (ds, π') ∧ asgAll ρ is ks ds = some ρ' ∧ r = (ρ', π', .nx) := by
  unfold sMany at e
  cases ea : a ρ π with
  | none => rw [ea] at e; cases e
  | some x =>
    rw [ea] at e
    simp only [Option.bind_some] at e
    cases eb : asgAll ρ is ks x.1 with
    | none => rw [eb] at e; cases e
    | some y => rw [eb] at e; cases e; exact ⟨x.1, x.2, y, rfl, eb, rfl⟩
theorem sf_many2 {nw : Bool} {i j : Nat} {k l : Bool} {t : TA} {a : Ax} (h : MF K [k, l] t a) : SF K nw (tPar i j t) (sMany [i, j] [k, l] a) := by
  refine ⟨fun fr σ H ρ π R ρ' π' o e D q => ?_⟩
  obtain ⟨ds, π1, ρ1, ea, eb, e⟩ := sMany_some e
  cases e
  refine h.fin R ea eb fun vs H' ln R' st => ?_
  match vs, ln with
  | [v, w], _ => exact ⟨v, w, rfl, q _ H' R' st⟩
theorem sf_many3 {nw : Bool} {i j m : Nat} {k l n : Bool} {t : TA} {a : Ax} (h : MF K [k, l, n] t a) : SF K nw (tPar3 i j m t) (sMany [i, j, m] [k, l, n] a) := by
  refine ⟨fun fr σ H ρ π R ρ' π' o e D q => ?_⟩
  obtain ⟨ds, π1, ρ1, ea, eb, e⟩ := sMany_some e
  cases e
  refine h.fin R ea eb fun vs H' ln R' st => ?_
  match vs, ln with
  | [v, w, u], _ => exact ⟨v, w, u, rfl, q _ H' R' st⟩
end FL

noncomputable section
namespace FL
open PySem PySem.Spec PyProof.Rows L2 EP
variable {K : PySem.W.Frag}
/-! ### the script -/
@[simp] def xScrIx (i : Nat) (f : Ex) : Ex := fun ρ π => match ρ[i]? with
  | some (.scr ns) => (f ρ π).bind fun x => (isI x.1).bind fun k => (atI ns k).map fun n => (.int n, x.2)
  | _ => none
theorem ef_scrIx {i : Nat} {t : TE} {f : Ex} (h : BF K t f) : EF K (tOp (rIx K) (tVar i) t) (xScrIx i f) := by
  refine ⟨fun fr σ H ρ π R d π' e Q q => ?_⟩
  unfold xScrIx at e
  split at e
  · rename_i ns hs
    cases ef : f ρ π with
    | none => rw [ef] at e; cases e
    | some x =>
      rw [ef] at e
      simp only [Option.bind_some] at e
      cases ei : isI x.1 with
      | none => rw [ei] at e; cases e
      | some k =>
        rw [ei] at e
        simp only [Option.bind_some] at e
        cases ea : atI ns k with
        | none => rw [ea] at e; cases e
        | some n =>
          rw [ea] at e
          cases e
          obtain ⟨a, ev, eq, nu⟩ := R.slot i _ hs
          refine ⟨_, ev, ?_⟩
          refine h.go fr σ H ρ π R x.1 x.2 ef _ fun v H1 R1 c1 b => ?_
          rw [isI_some ei] at b
          obtain rfl := b.int
          obtain ⟨a', ev', eq', _⟩ := R1.slot i _ hs
          rw [ev] at ev'
          cases ev'
          refine .inl ⟨a, ns.map V.int, k, .int n, rfl, rfl, eq', ?_, q _ H1 R1 c1 (.int _)⟩
          unfold atI at ea ⊢
          rw [List.length_map]
          cases ej : ixN ns.length k with
          | none => rw [ej] at ea; cases ea
          | some j =>
            rw [ej] at ea
            have ea : ns[j]? = some n := ea
            show (ns.map V.int)[j]? = _
            rw [List.getElem?_map, ea]; rfl
  · cases e
@[simp] def xScrLen (i : Nat) : Ex := fun ρ π => match ρ[i]? with
  | some (.scr ns) => some (.int ns.length, π)
  | _ => none
theorem ef_scrLen {i : Nat} : EF K (tCB (fun xs H Q => ∃ x n, xs = [x] ∧ LenV K x H n ∧ Q (.int n) H) (tCons (tVar i) tNil)) (xScrLen i) := by
  refine ⟨fun fr σ H ρ π R d π' e Q q => ?_⟩
  unfold xScrLen at e
  split at e
  · rename_i ns hs
    cases e
    obtain ⟨a, ev, eq, nu⟩ := R.slot i _ hs
    refine ⟨_, ev, _, ns.length, rfl, .inl ⟨ns.map V.int, eq, by rw [List.length_map]⟩, q _ H R (.refl _ _) (.int _)⟩
  · cases e
@[simp] def xScrSl (i : Nat) (l h : PxF) : Ex := fun ρ π => match ρ[i]? with
  | some (.scr ns) => (l ρ π).bind fun y => (h ρ y.2).map fun z => (.list ((cutD ns y.1 z.1).map PyData.int), z.2)
  | _ => none
theorem cut_map (ns : List Int) (lo hi : Option Int) : cutV (ns.map V.int) lo hi = (cutD ns lo hi).map V.int := by
  unfold cutV cutD
  rw [List.length_map, List.map_take, List.map_drop]
theorem nf_scrSl {i : Nat} {tl th : TO} {l h : PxF} (hl : PF K tl l) (hh : PF K th h) : NF K (tSl (rSlL K) (tVar i) tl th) (xScrSl i l h) := by
  refine ⟨fun fr σ H ρ π R d π' e Q q => ?_⟩
  unfold xScrSl at e
  split at e
  · rename_i ns hs
    cases el : l ρ π with
    | none => rw [el] at e; cases e
    | some y =>
      rw [el] at e
      simp only [Option.bind_some] at e
      cases eh : h ρ y.2 with
      | none => rw [eh] at e; cases e
      | some z =>
        rw [eh] at e
        cases e
        obtain ⟨a, ev, eq, nu⟩ := R.slot i _ hs
        refine ⟨_, ev, ?_⟩
        refine hl.go fr σ H ρ π R y.1 y.2 el _ fun H1 R1 c1 => ?_
        refine hh.go fr σ H1 ρ y.2 R1 z.1 z.2 eh _ fun H2 R2 c2 => ?_
        obtain ⟨a', ev', eq', _⟩ := R2.slot i _ hs
        rw [ev] at ev'
        cases ev'
        refine ⟨a, _, rfl, eq', fun p hp => ?_⟩
        rw [cut_map]
        exact q _ _ (R2.kp (upN hp)) (c1.trans (c2.trans (.of (upN hp)))) ((dnNew R2.sA hp (intsDv _)).back fun b z => R1.back c1 (R2.back c2 z))
  · cases e
/-- the def that makes the pot out of the script -/
@[simp] def runS (n : Nat) (b : Sx) : List Int → D → Option D := fun ns k => (outOf (b (.scr ns :: .dat k :: List.replicate n .un) [])).map (·.1)
def SpS (K : PySem.W.Frag) (F : List Int → D → Option D) : Sp := fun vs H Q _ => ∃ (a : Addr) (ns : List Int) (k : Int) (r : D), vs = [.ref a, .int k] ∧ SqL K H a (ns.map V.int) ∧ F ns (.int k) = some r ∧
  ∀ v H', Kp H H' → Dn K H H' (fun _ => False) v r → Q v H'
theorem SF.spS {N : List Str} {n : Nat} {t : TS} {b : Sx} (h : SF K true t b) (hn : N.length = n + 2) {vs : List V} {H : Hp} {Q : VK} {E : XK}
    (p : SpS K (runS n b) vs H Q E) (z : ∀ ρ π ρ' π', b ρ π = some (ρ', π', .nx) → False) : t { nx := fun _ H' => Q .non H', rt := Q } (start N vs) H := by
  obtain ⟨a, ns, k, r, rfl, hq, e, q⟩ := p
  unfold runS at e
  cases eo : outOf (b (.scr ns :: .dat (.int k) :: List.replicate n .un) []) with
  | none => rw [eo] at e; cases e
  | some x =>
    rw [eo] at e
    have e1 : x.1 = r := by simpa using e
    obtain ⟨d1, π1⟩ := x
    subst e1
    have unO : ∀ {i : Nat} {s : Slot}, (List.replicate n Slot.un)[i]? = some s → s = .un := fun {i s} h2 => by
      obtain ⟨_, e⟩ := List.getElem?_eq_some_iff.mp h2
      simp at e
      exact e.symm
    have slots : ∀ {i : Nat} {s : Slot}, (Slot.scr ns :: Slot.dat (.int k) :: List.replicate n Slot.un)[i]? = some s → s.isOwn = false := fun {i s} e => by
      match i with
      | 0 => cases e; rfl
      | 1 => cases e; rfl
      | i + 2 => rw [unO e]; rfl
    have noOwn : ∀ b, ¬ IsOwn (L2.start N [.ref a, .int k]) (.scr ns :: .dat (.int k) :: List.replicate n .un) b := by
      rintro b ⟨i, s, e1, e2, _⟩
      rw [slots e1] at e2; cases e2
    have R : Rel K ⟨fun _ => False, none⟩ (L2.start N [.ref a, .int k]) H (.scr ns :: .dat (.int k) :: List.replicate n .un) [] := by
      refine ⟨by rw [start_len (by simp; omega)]; simp [hn], fun i s e => ?_, fun i j s t b e1 e2 o1 => (by rw [slots e1] at o1; cases o1), fun b y => y.elim, fun b y => (by cases y), fun b y => (noOwn b y).elim⟩
      match i with
      | 0 => cases e; exact ⟨a, rfl, hq, fun z => z.elim (fun z => by cases z) (noOwn a)⟩
      | 1 => cases e; exact ⟨.int k, rfl, .int k⟩
      | i + 2 => rw [unO e]; trivial
    rcases outOf_some eo with ⟨ρ', e2⟩ | ⟨ρ', e2, e3⟩
    · refine h.go ⟨fun _ => False, none⟩ _ H _ [] R ρ' π1 _ e2 _ fun v σ' H' R' s' rv => ?_
      refine q v H' (fun a o y => s'.keep a o (fun w => w.elim (fun w => by cases w) (noOwn a)) y) ?_
      unfold RV at rv
      rw [if_pos rfl] at rv
      obtain ⟨p, xs, es, e1, e2, e3, e4, e5, e6⟩ := rv
      exact ⟨p, xs, es, e1, e2, e3.elim (fun w => (noOwn p w).elim) id, e4, e5, e6⟩
    · exact (z _ _ _ _ e2).elim
/-! ### walks and parts of lists or tuples -/
def iAny (K : PySem.W.Frag) (tl : TE) : TI := fun σ H R => tl σ H fun x H1 => ∃ a, x = .ref a ∧ (((∃ xs, SqL K H1 a xs) ∧ R (Itl K a) H1) ∨ ((∃ xs, SqT K H1 a xs) ∧ R (Itt K a) H1))
theorem pi_any {X : Cx} {tg l : Expr} {tl : TE} (hl : PE X l tl) : PI X tg l (iAny X.K tl) := by
  refine ⟨fun pins s σ H R I h => ?_⟩
  refine thn (hl.run pins s σ H _ I h) fun v s1 ⟨x, H1, I1, r1, q1⟩ => ?_
  obtain ⟨a, e, q1⟩ := q1
  subst e
  cases r1
  have fin : ∀ b, b ∈ [s1.heap.objs.size] → FpOk X pins H1 b := fun b hb => by
    have e : b = s1.heap.objs.size := by simpa using hb
    subst e
    exact I1.fpOk (Nat.le_refl _) (I1.hok.fresh (Nat.le_refl _))
  rcases q1 with ⟨⟨xs, hq⟩, q⟩ | ⟨⟨xs, hq⟩, q⟩
  · obtain ⟨its, rv, p, hz⟩ := I1.list hq
    refine wpAny_pyIter_list p.isList ?_
    exact ⟨s1.heap.objs.size, [s1.heap.objs.size], _, _, H1, rfl, I1.kept (t' := s1.toks) fun b o e => Heap.get?_push_of_some _ e, turn_list a _, ⟨_, Heap.get?_push_size _ rfl, rfl, rfl⟩, fin, q⟩
  · obtain ⟨its, rv, p, hz⟩ := I1.tuple hq
    refine wpAny_pyIter_tuple (show s1.heap.IsTuple a its.toArray from p) ?_
    exact ⟨s1.heap.objs.size, [s1.heap.objs.size], _, _, H1, rfl, I1.kept (t' := s1.toks) fun b o e => Heap.get?_push_of_some _ e, turn_tuple a _, ⟨_, Heap.get?_push_size _ rfl, rfl, rfl⟩, fin, q⟩
def seqOf : D → Option (List D)
  | .list ds => some ds
  | .tuple ds => some ds
  | _ => none
@[simp] theorem seqOf_list (ds : List D) : seqOf (.list ds) = some ds := rfl
@[simp] theorem seqOf_tuple (ds : List D) : seqOf (.tuple ds) = some ds := rfl
@[simp] def iA (f : Ex) : Ax := fun ρ π => (f ρ π).bind fun x => (seqOf x.1).map fun ds => (ds, x.2)
theorem if_any {t : TE} {f : Ex} (h : YF K t f) : IF K (iAny K t) (iA f) := by
  refine ⟨fun fr σ H ρ π R ds π' e Q q => ?_⟩
  unfold iA at e
  cases ea : f ρ π with
  | none => rw [ea] at e; cases e
  | some x =>
    rw [ea] at e
    simp only [Option.bind_some] at e
    cases ed : seqOf x.1 with
    | none => rw [ed] at e; cases e
    | some z =>
      rw [ed] at e; cases e
      refine h.go fr σ H ρ π R x.1 x.2 ea _ fun v H' R' c l t => ?_
      unfold seqOf at ed
      split at ed
      · rename_i ds' hx
        cases ed
        obtain ⟨a, xs, rfl, p⟩ := l _ hx
        exact ⟨a, rfl, .inl ⟨⟨xs, sqL p.1⟩, q _ _ H' R' c itl_ok p⟩⟩
      · rename_i ds' hx
        cases ed
        obtain ⟨a, xs, rfl, p⟩ := t _ hx
        exact ⟨a, rfl, .inr ⟨⟨xs, p.1.sq⟩, q _ _ H' R' c itt_ok p⟩⟩
      · cases ed
def rSlX (K : PySem.W.Frag) : V → Option Int → Option Int → Hp → VK → Prop := fun x lo hi H Q => rSlL K x lo hi H Q ∨ rSlA K x lo hi H Q
theorem sl_any {X : Cx} : SlR X (rSlX X.K) := by
  intro pins s σ H x v vl vu lo hi sl Q I rx hs pl pu q
  rcases q with q | q
  · exact sl_list pins s σ H x v vl vu lo hi sl Q I rx hs pl pu q
  · exact sl_tupA pins s σ H x v vl vu lo hi sl Q I rx hs pl pu q
@[simp] def cutA : SlF := fun x lo hi => match x with
  | .list ds => some (.list (cutD ds lo hi))
  | .tuple ds => some (.tuple (cutD ds lo hi))
  | _ => none
theorem sf_any : SF3 K (rSlX K) cutA := ⟨fun fr H S al x dx lo hi hx d e Q q => by
  unfold cutA at e
  split at e
  · exact .inl (sn_list.of.go fr H S al x _ lo hi hx d (by unfold cutL; exact e) Q q)
  · exact .inr (sf_tup.go fr H S al x _ lo hi hx d (by unfold cutT; exact e) Q q)
  · cases e⟩
theorem sn_any : SN3 K (rSlX K) cutL := ⟨fun fr H S al x dx lo hi hx d e Q q => .inl (sn_list.go fr H S al x dx lo hi hx d e Q q)⟩
/-! ### simp rules -/
@[simp] theorem sIx_no (n d : Nat) : HT.sIx n d none = d := rfl
@[simp] theorem sIx_nn (n d : Nat) {v : Int} (h : 0 ≤ v) : HT.sIx n d (some v) = min v.toNat n := by
  show (if v < 0 then _ else _) = _
  rw [if_neg (by omega)]

@[simp] theorem eqv_int (a b : Int) : PyData.eqv (.int a) (.int b) = decide (a = b) := by
  simp only [PyData.eqv]
  by_cases h : a = b
  · simp [h]
  · rw [decide_eq_false h]; exact beq_eq_false_iff_ne.mpr h
theorem eqv_nat (a b : Nat) : PyData.eqv (.int a) (.int b) = decide (a = b) := by
  rw [eqv_int]
  by_cases h : a = b
  · simp [h]
  · rw [decide_eq_false h, decide_eq_false (by omega)]
@[simp] theorem eqv_non : PyData.eqv .none .none = true := by simp [PyData.eqv]
@[simp] theorem eqv_bool (a b : Bool) : PyData.eqv (.bool a) (.bool b) = (a == b) := by simp [PyData.eqv]
@[simp] theorem shp_int (i : Int) : SeqAt.shaped (.int i) = true := by simp [SeqAt.shaped, PyData.canLay0, PyData.depth]
@[simp] theorem shp_non : SeqAt.shaped .none = true := by simp [SeqAt.shaped, PyData.canLay0, PyData.depth]
@[simp] theorem shp_bool (b : Bool) : SeqAt.shaped (.bool b) = true := by simp [SeqAt.shaped, PyData.canLay0, PyData.depth]
/-- a comprehension that asks each item the same, whatever the pot -/
theorem lcGo_map {tg : Gx} {tt : Tx} {el : Ex} {ρw : En} {π : Pot} (f : D → D) : ∀ ds : List D, (∀ d ∈ ds, ∃ ρ2, tg d ρw = some ρ2 ∧ tt ρ2 π = some (true, π) ∧ el ρ2 π = some (f d, π)) → lcGo tg tt el ρw ds π = some (ds.map f, π)
  | [], _ => rfl
  | d :: ds, h => by
    obtain ⟨ρ2, e1, e2, e3⟩ := h d List.mem_cons_self
    unfold lcGo
    rw [e1]
    simp only [Option.bind_some]
    rw [e2]
    simp only [Option.bind_some, if_true]
    rw [e3]
    simp only [Option.bind_some]
    rw [lcGo_map f ds fun d hd => h d (List.mem_cons_of_mem _ hd)]
    rfl
/-- with a test -/
theorem lcGo_filter {tg : Gx} {tt : Tx} {el : Ex} {ρw : En} {π : Pot} (p : D → Bool) (f : D → D) : ∀ ds : List D, (∀ d ∈ ds, ∃ ρ2, tg d ρw = some ρ2 ∧ tt ρ2 π = some (p d, π) ∧ (p d = true → el ρ2 π = some (f d, π))) → lcGo tg tt el ρw ds π = some ((ds.filter p).map f, π)
  | [], _ => rfl
  | d :: ds, h => by
    obtain ⟨ρ2, e1, e2, e3⟩ := h d List.mem_cons_self
    have ih := lcGo_filter p f ds fun d hd => h d (List.mem_cons_of_mem _ hd)
    unfold lcGo
    rw [e1]
    simp only [Option.bind_some]
    rw [e2]
    simp only [Option.bind_some]
    by_cases c : p d = true
    · rw [if_pos c, e3 c]
      simp only [Option.bind_some]
      rw [ih, List.filter_cons_of_pos c]
      rfl
    · rw [if_neg c, ih, List.filter_cons_of_neg c]
/-- a loop that keeps what is told of it -/
theorem forGo_inv {tg : Gx} {b : Sx} (I : Nat → En → Pot → Prop) (ds : List D) (h : ∀ (i : Nat) (d : D) (ρ : En) (π : Pot), ds[i]? = some d → I i ρ π → ∃ ρ1 ρ2 π2, tg d ρ = some ρ1 ∧ (b ρ1 π = some (ρ2, π2, .nx) ∨ b ρ1 π = some (ρ2, π2, .ct)) ∧ I (i + 1) ρ2 π2) {ρ : En} {π : Pot} (h0 : I 0 ρ π) :
    ∃ ρ' π', forGo tg b ds ρ π = some (ρ', π', .nx) ∧ I ds.length ρ' π' := by
  have main : ∀ (n k : Nat) (ρ : En) (π : Pot), n = ds.length - k → k ≤ ds.length → I k ρ π → ∃ ρ' π', forGo tg b (ds.drop k) ρ π = some (ρ', π', .nx) ∧ I ds.length ρ' π' := by
    intro n
    induction n with
    | zero =>
      intro k ρ π e l hk
      have : k = ds.length := by omega
      subst this
      rw [List.drop_length]
      exact ⟨ρ, π, rfl, hk⟩
    | succ n ih =>
      intro k ρ π e l hk
      have lt : k < ds.length := by omega
      obtain ⟨d, ed, edr⟩ := drop_at lt
      rw [edr]
      obtain ⟨ρ1, ρ2, π2, e1, e2, h2⟩ := h k d ρ π ed hk
      obtain ⟨ρ', π', e3, h3⟩ := ih (k + 1) ρ2 π2 (by omega) (by omega) h2
      refine ⟨ρ', π', ?_, h3⟩
      unfold forGo
      rw [e1]
      simp only [Option.bind_some]
      rcases e2 with e2 | e2 <;> rw [e2] <;> simp only [Option.bind_some] <;> exact e3
  obtain ⟨ρ', π', e, h2⟩ := main _ 0 ρ π rfl (Nat.zero_le _) h0
  exact ⟨ρ', π', e, h2⟩
theorem cut_take {α : Type} (xs : List α) (a : Nat) (h : a ≤ xs.length) : cutD xs none (some (a : Int)) = xs.take a := by
  simp [cutD]
theorem cut_drop {α : Type} (xs : List α) (a : Nat) (h : a ≤ xs.length) : cutD xs (some (a : Int)) none = xs.drop a := by
  unfold cutD
  rw [sIx_no, sIx_nn _ _ (by omega)]
  rw [show min (Int.toNat (a : Int)) xs.length = a by omega]
  exact List.take_of_length_le (by rw [List.length_drop]; omega)
theorem cut_one {α : Type} (xs : List α) (a : Nat) (h : a < xs.length) : cutD xs (some (a : Int)) (some ((a : Int) + 1)) = [xs[a]] := by
  unfold cutD
  rw [sIx_nn _ _ (by omega), sIx_nn _ _ (by omega)]
  rw [show min (Int.toNat (a : Int)) xs.length = a by omega, show min (Int.toNat ((a : Int) + 1)) xs.length = a + 1 by omega]
  rw [List.drop_eq_getElem_cons h, show a + 1 - a = 1 by omega]
  rfl
/-- a loop that asks each item the same and ends with c at the first that fails -/
theorem forGo_search {tg : Gx} {b : Sx} {π : Pot} (P : En → Prop) (p : D → Bool) (c : D) (h : ∀ ρ d, P ρ → ∃ ρ1, tg d ρ = some ρ1 ∧ ((p d = true ∧ ∃ ρ2, b ρ1 π = some (ρ2, π, .nx) ∧ P ρ2) ∨ (p d = false ∧ ∃ ρ2, b ρ1 π = some (ρ2, π, .rt c)))) :
    ∀ (ds : List D) (ρ : En), P ρ → ∃ ρ', forGo tg b ds ρ π = some (ρ', π, if ds.all p = true then .nx else .rt c) ∧ (ds.all p = true → P ρ')
  | [], ρ, hp => ⟨ρ, rfl, fun _ => hp⟩
  | d :: ds, ρ, hp => by
    obtain ⟨ρ1, e1, h1⟩ := h ρ d hp
    unfold forGo
    rw [e1]
    simp only [Option.bind_some]
    rcases h1 with ⟨hd, ρ2, e2, hp2⟩ | ⟨hd, ρ2, e2⟩
    · rw [e2]
      simp only [Option.bind_some]
      obtain ⟨ρ', e3, e4⟩ := forGo_search P p c h ds ρ2 hp2
      refine ⟨ρ', ?_, ?_⟩
      · rw [e3, List.all_cons, hd, Bool.true_and]
      · rw [List.all_cons, hd, Bool.true_and]; exact e4
    · rw [e2]
      simp only [Option.bind_some]
      refine ⟨ρ2, ?_, ?_⟩
      · rw [List.all_cons, hd, Bool.false_and]; rfl
      · rw [List.all_cons, hd, Bool.false_and]; intro z; cases z
theorem boolsO_map (f : D → Bool) : ∀ ds : List D, boolsO (ds.map fun d => .bool (f d)) = some (ds.map f)
  | [] => rfl
  | d :: ds => by
    show (boolsO (ds.map fun d => .bool (f d))).map _ = _
    rw [boolsO_map f ds]; rfl
theorem atI_of {α : Type} {xs : List α} {i : Int} {j : Nat} (h : i = j) : atI xs i = xs[j]? := by
  subst h
  unfold atI ixN
  rw [if_pos (by omega)]
  by_cases c : (j : Int) < (xs.length : Int)
  · rw [if_pos c]; simp
  · rw [if_neg c]
    exact (List.getElem?_eq_none (by omega)).symm
@[simp] theorem atI_0 {α : Type} (x0 : α) (r : List α) : atI (x0 :: r) 0 = some x0 := atI_of (j := 0) rfl
@[simp] theorem atI_1 {α : Type} (x0 x1 : α) (r : List α) : atI (x0 :: x1 :: r) 1 = some x1 := atI_of (j := 1) rfl
@[simp] theorem atI_2 {α : Type} (x0 x1 x2 : α) (r : List α) : atI (x0 :: x1 :: x2 :: r) 2 = some x2 := atI_of (j := 2) rfl
@[simp] theorem atI_3 {α : Type} (x0 x1 x2 x3 : α) (r : List α) : atI (x0 :: x1 :: x2 :: x3 :: r) 3 = some x3 := atI_of (j := 3) rfl
@[simp] theorem atI_4 {α : Type} (x0 x1 x2 x3 x4 : α) (r : List α) : atI (x0 :: x1 :: x2 :: x3 :: x4 :: r) 4 = some x4 := atI_of (j := 4) rfl
@[simp] theorem atI_5 {α : Type} (x0 x1 x2 x3 x4 x5 : α) (r : List α) : atI (x0 :: x1 :: x2 :: x3 :: x4 :: x5 :: r) 5 = some x5 := atI_of (j := 5) rfl
@[simp] theorem atI_6 {α : Type} (x0 x1 x2 x3 x4 x5 x6 : α) (r : List α) : atI (x0 :: x1 :: x2 :: x3 :: x4 :: x5 :: x6 :: r) 6 = some x6 := atI_of (j := 6) rfl
@[simp] theorem atI_7 {α : Type} (x0 x1 x2 x3 x4 x5 x6 x7 : α) (r : List α) : atI (x0 :: x1 :: x2 :: x3 :: x4 :: x5 :: x6 :: x7 :: r) 7 = some x7 := atI_of (j := 7) rfl
@[simp] theorem atI_8 {α : Type} (x0 x1 x2 x3 x4 x5 x6 x7 x8 : α) (r : List α) : atI (x0 :: x1 :: x2 :: x3 :: x4 :: x5 :: x6 :: x7 :: x8 :: r) 8 = some x8 := atI_of (j := 8) rfl
@[simp] theorem atI_9 {α : Type} (x0 x1 x2 x3 x4 x5 x6 x7 x8 x9 : α) (r : List α) : atI (x0 :: x1 :: x2 :: x3 :: x4 :: x5 :: x6 :: x7 :: x8 :: x9 :: r) 9 = some x9 := atI_of (j := 9) rfl
@[simp] theorem isiB_int_none : isiB "int" (.none) = false := rfl
@[simp] theorem isiB_int_bool (b : Bool) : isiB "int" (.bool b) = true := rfl
@[simp] theorem isiB_int_int (i : Int) : isiB "int" (.int i) = true := rfl
@[simp] theorem isiB_int_str (s : Str) : isiB "int" (.str s) = false := rfl
@[simp] theorem isiB_int_list (xs : List D) : isiB "int" (.list xs) = false := rfl
@[simp] theorem isiB_int_tuple (xs : List D) : isiB "int" (.tuple xs) = false := rfl
@[simp] theorem isiB_int_dict (k : List (D × D)) : isiB "int" (.dict k) = false := rfl
@[simp] theorem isiB_bool_none : isiB "bool" (.none) = false := rfl
@[simp] theorem isiB_bool_bool (b : Bool) : isiB "bool" (.bool b) = true := rfl
@[simp] theorem isiB_bool_int (i : Int) : isiB "bool" (.int i) = false := rfl
@[simp] theorem isiB_bool_str (s : Str) : isiB "bool" (.str s) = false := rfl
@[simp] theorem isiB_bool_list (xs : List D) : isiB "bool" (.list xs) = false := rfl
@[simp] theorem isiB_bool_tuple (xs : List D) : isiB "bool" (.tuple xs) = false := rfl
@[simp] theorem isiB_bool_dict (k : List (D × D)) : isiB "bool" (.dict k) = false := rfl
@[simp] theorem isiB_str_none : isiB "str" (.none) = false := rfl
@[simp] theorem isiB_str_bool (b : Bool) : isiB "str" (.bool b) = false := rfl
@[simp] theorem isiB_str_int (i : Int) : isiB "str" (.int i) = false := rfl
@[simp] theorem isiB_str_str (s : Str) : isiB "str" (.str s) = true := rfl
@[simp] theorem isiB_str_list (xs : List D) : isiB "str" (.list xs) = false := rfl
@[simp] theorem isiB_str_tuple (xs : List D) : isiB "str" (.tuple xs) = false := rfl
@[simp] theorem isiB_str_dict (k : List (D × D)) : isiB "str" (.dict k) = false := rfl
@[simp] theorem isiB_list_none : isiB "list" (.none) = false := rfl
@[simp] theorem isiB_list_bool (b : Bool) : isiB "list" (.bool b) = false := rfl
@[simp] theorem isiB_list_int (i : Int) : isiB "list" (.int i) = false := rfl
@[simp] theorem isiB_list_str (s : Str) : isiB "list" (.str s) = false := rfl
@[simp] theorem isiB_list_list (xs : List D) : isiB "list" (.list xs) = true := rfl
@[simp] theorem isiB_list_tuple (xs : List D) : isiB "list" (.tuple xs) = false := rfl
@[simp] theorem isiB_list_dict (k : List (D × D)) : isiB "list" (.dict k) = false := rfl
@[simp] theorem isiB_tuple_none : isiB "tuple" (.none) = false := rfl
@[simp] theorem isiB_tuple_bool (b : Bool) : isiB "tuple" (.bool b) = false := rfl
@[simp] theorem isiB_tuple_int (i : Int) : isiB "tuple" (.int i) = false := rfl
@[simp] theorem isiB_tuple_str (s : Str) : isiB "tuple" (.str s) = false := rfl
@[simp] theorem isiB_tuple_list (xs : List D) : isiB "tuple" (.list xs) = false := rfl
@[simp] theorem isiB_tuple_tuple (xs : List D) : isiB "tuple" (.tuple xs) = true := rfl
@[simp] theorem isiB_tuple_dict (k : List (D × D)) : isiB "tuple" (.dict k) = false := rfl
@[simp] theorem isiB_dict_none : isiB "dict" (.none) = false := rfl
@[simp] theorem isiB_dict_bool (b : Bool) : isiB "dict" (.bool b) = false := rfl
@[simp] theorem isiB_dict_int (i : Int) : isiB "dict" (.int i) = false := rfl
@[simp] theorem isiB_dict_str (s : Str) : isiB "dict" (.str s) = false := rfl
@[simp] theorem isiB_dict_list (xs : List D) : isiB "dict" (.list xs) = false := rfl
@[simp] theorem isiB_dict_tuple (xs : List D) : isiB "dict" (.tuple xs) = false := rfl
@[simp] theorem isiB_dict_dict (k : List (D × D)) : isiB "dict" (.dict k) = true := rfl
theorem okEAll_all (f : Nat) : ∀ xs : List D, okEAll f xs = xs.all (okE f)
  | [] => rfl
  | x :: xs => by
    show (okE f x && okEAll f xs) = _
    rw [okEAll_all f xs, List.all_cons]
theorem nodesAll_append : ∀ xs ys : List D, nodesAll (xs ++ ys) = nodesAll xs + nodesAll ys
  | [], ys => by simp [nodesAll]
  | x :: xs, ys => by
    show nodes x + nodesAll (xs ++ ys) = nodes x + nodesAll xs + nodesAll ys
    rw [nodesAll_append xs ys]; omega
theorem nodes_pos (d : D) : 1 ≤ nodes d := by cases d <;> simp [nodes]
theorem len_nodes : ∀ xs : List D, xs.length ≤ nodesAll xs
  | [] => Nat.zero_le _
  | x :: xs => by
    have := len_nodes xs
    have := nodes_pos x
    show xs.length + 1 ≤ nodes x + nodesAll xs
    omega
theorem nodes_split {xs : List D} {a : Nat} (h : a < xs.length) : nodesAll (xs.take a) + nodes xs[a] + nodesAll (xs.drop (a + 1)) = nodesAll xs := by
  have e : xs = xs.take a ++ (xs[a] :: xs.drop (a + 1)) := by rw [← List.drop_eq_getElem_cons h, List.take_append_drop]
  have e2 := congrArg nodesAll e
  rw [nodesAll_append] at e2
  have e3 : nodesAll (xs[a] :: xs.drop (a + 1)) = nodes xs[a] + nodesAll (xs.drop (a + 1)) := rfl
  omega
theorem okE_mono : ∀ (f g : Nat) (d : D), f ≤ g → okE f d = true → okE g d = true := by
  intro f
  induction f with
  | zero =>
    intro g d l h
    cases d <;> first | (cases g <;> first | exact h | (simp [okE] at h ⊢; done) | (simpa [okE] using h)) | (simp [okE] at h)
  | succ f ih =>
    intro g d l h
    obtain ⟨g, rfl⟩ : ∃ k, g = k + 1 := ⟨g - 1, by omega⟩
    cases d with
    | list xs =>
      have h1 : okEAll f xs = true := h
      show okEAll g xs = true
      rw [okEAll_all] at h1 ⊢
      exact List.all_eq_true.mpr fun x hx => ih g x (by omega) (List.all_eq_true.mp h1 x hx)
    | tuple xs =>
      have h1 : okEAll f xs = true := h
      show okEAll g xs = true
      rw [okEAll_all] at h1 ⊢
      exact List.all_eq_true.mpr fun x hx => ih g x (by omega) (List.all_eq_true.mp h1 x hx)
    | dict k => simp [okE] at h
    | _ => simpa [okE] using h
/-! ### arguments by name -/
def PA1 (K : PySem.W.Frag) (fr : Fm) (H : Hp) (S : Addr → Prop) (k : Bool) (v : V) (d : D) : Prop := if k = true then Db K fr H S v d else Dv K H S v d
theorem argA0 {fr : Fm} {H : Hp} {S : Addr → Prop} {vs : List V} {ds : List D} (h : ArgA K fr H S [] vs ds) : vs = [] ∧ ds = [] := by
  match vs, ds, h with
  | [], [], _ => exact ⟨rfl, rfl⟩
theorem argAC {fr : Fm} {H : Hp} {S : Addr → Prop} {k : Bool} {ks : List Bool} {vs : List V} {ds : List D} (h : ArgA K fr H S (k :: ks) vs ds) : ∃ v vr d dr, vs = v :: vr ∧ ds = d :: dr ∧ PA1 K fr H S k v d ∧ ArgA K fr H S ks vr dr := by
  match vs, ds, h with
  | v :: vr, d :: dr, h => exact ⟨v, vr, d, dr, rfl, rfl, h.1, h.2⟩
theorem argA1 {fr : Fm} {H : Hp} {S : Addr → Prop} {k0 : Bool} {vs : List V} {ds : List D} (h : ArgA K fr H S [k0] vs ds) : ∃ v0 d0, vs = [v0] ∧ ds = [d0] ∧ PA1 K fr H S k0 v0 d0 := by
  obtain ⟨v, vr, d, dr, rfl, rfl, a, r⟩ := argAC h
  obtain ⟨rfl, rfl⟩ := argA0 r
  exact ⟨v, d, rfl, rfl, a⟩
theorem argA2 {fr : Fm} {H : Hp} {S : Addr → Prop} {k0 k1 : Bool} {vs : List V} {ds : List D} (h : ArgA K fr H S [k0, k1] vs ds) : ∃ v0 v1 d0 d1, vs = [v0, v1] ∧ ds = [d0, d1] ∧ PA1 K fr H S k0 v0 d0 ∧ PA1 K fr H S k1 v1 d1 := by
  obtain ⟨v, vr, d, dr, rfl, rfl, a, r⟩ := argAC h
  obtain ⟨v1, d1, rfl, rfl, a1⟩ := argA1 r
  exact ⟨v, v1, d, d1, rfl, rfl, a, a1⟩
theorem argA3 {fr : Fm} {H : Hp} {S : Addr → Prop} {k0 k1 k2 : Bool} {vs : List V} {ds : List D} (h : ArgA K fr H S [k0, k1, k2] vs ds) : ∃ v0 v1 v2 d0 d1 d2, vs = [v0, v1, v2] ∧ ds = [d0, d1, d2] ∧ PA1 K fr H S k0 v0 d0 ∧ PA1 K fr H S k1 v1 d1 ∧ PA1 K fr H S k2 v2 d2 := by
  obtain ⟨v, vr, d, dr, rfl, rfl, a, r⟩ := argAC h
  obtain ⟨v1, v2, d1, d2, rfl, rfl, a1, a2⟩ := argA2 r
  exact ⟨v, v1, v2, d, d1, d2, rfl, rfl, a, a1, a2⟩
theorem argA4 {fr : Fm} {H : Hp} {S : Addr → Prop} {k0 k1 k2 k3 : Bool} {vs : List V} {ds : List D} (h : ArgA K fr H S [k0, k1, k2, k3] vs ds) : ∃ v0 v1 v2 v3 d0 d1 d2 d3, vs = [v0, v1, v2, v3] ∧ ds = [d0, d1, d2, d3] ∧ PA1 K fr H S k0 v0 d0 ∧ PA1 K fr H S k1 v1 d1 ∧ PA1 K fr H S k2 v2 d2 ∧ PA1 K fr H S k3 v3 d3 := by
  obtain ⟨v, vr, d, dr, rfl, rfl, a, r⟩ := argAC h
  obtain ⟨v1, v2, v3, d1, d2, d3, rfl, rfl, a1, a2, a3⟩ := argA3 r
  exact ⟨v, v1, v2, v3, d, d1, d2, d3, rfl, rfl, a, a1, a2, a3⟩
theorem argA5 {fr : Fm} {H : Hp} {S : Addr → Prop} {k0 k1 k2 k3 k4 : Bool} {vs : List V} {ds : List D} (h : ArgA K fr H S [k0, k1, k2, k3, k4] vs ds) : ∃ v0 v1 v2 v3 v4 d0 d1 d2 d3 d4, vs = [v0, v1, v2, v3, v4] ∧ ds = [d0, d1, d2, d3, d4] ∧ PA1 K fr H S k0 v0 d0 ∧ PA1 K fr H S k1 v1 d1 ∧ PA1 K fr H S k2 v2 d2 ∧ PA1 K fr H S k3 v3 d3 ∧ PA1 K fr H S k4 v4 d4 := by
  obtain ⟨v, vr, d, dr, rfl, rfl, a, r⟩ := argAC h
  obtain ⟨v1, v2, v3, v4, d1, d2, d3, d4, rfl, rfl, a1, a2, a3, a4⟩ := argA4 r
  exact ⟨v, v1, v2, v3, v4, d, d1, d2, d3, d4, rfl, rfl, a, a1, a2, a3, a4⟩
end FL

noncomputable section
namespace FL
open PySem PySem.Spec PyProof.Rows L2 EP
variable {K : PySem.W.Frag}
/-! ### xs[i] += e -/
theorem get_listG {X : Cx} : PGet X (rIxL X.K) := by
  intro pins s σ H x y v u Q I rx ry h
  obtain ⟨p, xs, i, z, rfl, rfl, hq, he, q⟩ := h
  cases rx
  obtain ⟨t, rfl⟩ := ry
  obtain ⟨its, r, pl, hz⟩ := I.list hq
  obtain ⟨j, h1, h2, h3, h4, h5⟩ := atI_get he
  obtain ⟨w, ew, rw'⟩ := r.get h2
  have hl := r.length
  have hn := line63
  have fin : EP X pins σ Q w s := ⟨z, H, I, rw', q⟩
  by_cases h0 : 0 ≤ i
  · have hj : i.toNat = j := by
      rw [seqIndex_of h0 h5] at h1
      exact Option.some.inj h1
    exact wpAny_getItem_list pl.isList h0 (by omega) (by rw [hj]; simpa using ew) fin
  · have hj : (i + (its.toArray.size : Int)).toNat = j := by
      rw [seqIndex_neg (by omega) h4] at h1
      rw [List.size_toArray, ← hl]
      exact Option.some.inj h1
    exact wpAny_getItem_list_neg pl.isList (by omega) (by rw [List.size_toArray] <;> omega) (by omega) (by rw [hj]; simpa using ew) fin
@[simp] def sAugS (i : Nat) (F : F2) (g f : Ex) : Sx := fun ρ π => (g ρ π).bind fun z => match ρ[i]?, z.1 with
  | some (.own ds), .int k => (atI ds k).bind fun x => (f ρ z.2).bind fun y => (F x y.1).bind fun w => (ixN ds.length k).map fun j => (ρ.set i (.own (ds.set j w)), y.2, .nx)
  | _, _ => none
theorem sf_augS {nw : Bool} {i : Nat} {te ti : TE} {r : TIp} {F : F2} {f g : Ex} (hg : BF K ti g) (hF : OF K r F) (h : BF K te f) : SF K nw (tAugS (tVar i) ti te (rIxL K) r rSetL) (sAugS i F g f) := by
  refine ⟨fun fr σ H ρ π R ρ' π' o e D q => ?_⟩
  unfold sAugS at e
  cases eg : g ρ π with
  | none => rw [eg] at e; cases e
  | some z =>
    rw [eg] at e
    simp only [Option.bind_some] at e
    split at e
    · rename_i ds k hs hk
      cases ex : atI ds k with
      | none => rw [ex] at e; cases e
      | some x =>
        rw [ex] at e
        simp only [Option.bind_some] at e
        cases ef : f ρ z.2 with
        | none => rw [ef] at e; cases e
        | some y =>
          rw [ef] at e
          simp only [Option.bind_some] at e
          cases ew : F x y.1 with
          | none => rw [ew] at e; cases e
          | some w =>
            rw [ew] at e
            simp only [Option.bind_some] at e
            cases ej : ixN ds.length k with
            | none => rw [ej] at e; cases e
            | some j =>
              rw [ej] at e
              cases e
              obtain ⟨a, xs, ev, ea, dv⟩ := R.slot i _ hs
              refine ⟨_, ev, ?_⟩
              refine hg.go fr σ H ρ π R z.1 z.2 eg _ fun iv H1 R1 c1 b1 => ?_
              rw [hk] at b1
              obtain rfl := b1.int
              obtain ⟨a1, xs1, ev1, ea1, dv1⟩ := R1.slot i _ hs
              rw [ev] at ev1
              cases ev1
              obtain ⟨v, e1, dvx⟩ := atI_dv dv1 ex
              refine ⟨a, xs1, k, v, rfl, rfl, sqL ea1, e1, ?_⟩
              refine h.go fr σ H1 ρ z.2 R1 y.1 y.2 ef _ fun u H2 R2 c2 b2 => ?_
              refine hF.go fr H2 _ R2.sA v u x y.1 (.inl (dvx.step R1.us (c2.step σ ρ))) b2 w ew _ fun n H3 k3 dz => ?_
              have R3 := R2.kp k3
              obtain ⟨a3, xs3, ev3, ea3, dv3⟩ := R3.slot i _ hs
              rw [ev] at ev3
              cases ev3
              have oa : IsOwn σ ρ a := ⟨i, _, hs, rfl, ev⟩
              refine ⟨a, xs3, k, j, rfl, rfl, ea3, by rw [dv3.length]; exact ej, ?_⟩
              have upq : Step ⟨fun b => b = a, (wd fr σ ρ H3).S, H3⟩ ⟨fun b => b = a, (wd fr σ ρ H3).S, upd H3 a (.lst (xs3.set j n))⟩ :=
                ⟨fun b u n z => by show L2.upd H3 a _ b = _; rw [upd_ne n]; exact z, fun b z => .inl z, fun b z => .inl z⟩
              have us2 : ∀ b, b = a → (wd fr σ ρ H3).S b := fun b z => .inr (by rw [z]; exact oa)
              obtain ⟨R4, s4⟩ := R3.put (o := .lst (xs3.set j n)) (s' := .own (ds.set j w)) hs rfl rfl ev ⟨a, xs3.set j n, ev, upd_same, (dv3.set dz j).step (A := ⟨fun b => b = a, (wd fr σ ρ H3).S, H3⟩) us2 upq⟩
              exact q σ _ R4 ((((c1.trans c2).trans (.of k3)).step σ ρ).trans R.us s4)
    · cases e
/-! ### range with a step -/
theorem dbA3 {fr : Fm} {H : Hp} {S : Addr → Prop} {vs : List V} {d e f : D} (h : DbA K fr H S vs [d, e, f]) : ∃ v w u, vs = [v, w, u] ∧ Db K fr H S v d ∧ Db K fr H S w e ∧ Db K fr H S u f := by
  match vs, h with
  | [v, w, u], h => exact ⟨v, w, u, rfl, h.1, h.2.1, h.2.2.1⟩
def r3Ok (i j c : Int) : Bool := cdec ((-(2 ^ 62) ≤ i ∧ i < 2 ^ 62) ∧ (-(2 ^ 62) ≤ j ∧ j < 2 ^ 62) ∧ c ≠ 0 ∧ -1073741824 < c ∧ c < 1073741824)
def n3 (i j c : Int) : Nat := (Builtin.Range.rangeSize i j c).toNat
def rg3 (i j c : Int) : List D := (List.range (n3 i j c)).map fun (k : Nat) => .int (i + (k : Int) * c)
theorem rg3_get {i j c : Int} {k : Nat} {d : D} (h : (rg3 i j c)[k]? = some d) : k < n3 i j c ∧ d = .int (i + (k : Int) * c) := by
  unfold rg3 at h
  rw [List.getElem?_map] at h
  cases e : (List.range (n3 i j c))[k]? with
  | none => rw [e] at h; cases h
  | some y =>
    rw [e] at h
    cases h
    obtain ⟨l, e2⟩ := List.getElem?_eq_some_iff.mp e
    rw [List.getElem_range] at e2
    subst e2
    exact ⟨by simpa using l, rfl⟩
theorem rg3_length (i j c : Int) : (rg3 i j c).length = n3 i j c := by simp [rg3]
theorem size_bounds {i j c : Int} (hi : -(2 ^ 62) ≤ i ∧ i < 2 ^ 62) (hj : -(2 ^ 62) ≤ j ∧ j < 2 ^ 62) (c0 : c ≠ 0) : 0 ≤ Builtin.Range.rangeSize i j c ∧ Builtin.Range.rangeSize i j c < 2 ^ 63 := by
  unfold Builtin.Range.rangeSize
  split
  · split
    · have a := Int.ediv_nonneg (show 0 ≤ j - i - 1 by omega) (show 0 ≤ c by omega)
      have b := Int.ediv_le_self c (show 0 ≤ j - i - 1 by omega)
      omega
    · omega
  · split
    · have a := Int.ediv_nonneg (show 0 ≤ i - j - 1 by omega) (show 0 ≤ -c by omega)
      have b := Int.ediv_le_self (-c) (show 0 ≤ i - j - 1 by omega)
      omega
    · omega
theorem r3_ok {i j c : Int} (h : r3Ok i j c = true) : RgC i j c (n3 i j c) := by
  obtain ⟨hi, hj, c0, c1, c2⟩ := of_cdec h
  obtain ⟨s0, s1⟩ := size_bounds hi hj c0
  refine ⟨c0, by omega, ?_, by unfold n3; omega⟩
  unfold Builtin.Range.small
  simp only [Builtin.Range.rangeFitsLong, Bool.and_eq_true, Bool.or_eq_true, decide_eq_true_eq, beq_iff_eq]
  refine ⟨⟨⟨⟨by omega, by omega⟩, by omega⟩, by omega⟩, .inr ?_⟩
  split <;> (simp only [Bool.and_eq_true, decide_eq_true_eq]; omega)
theorem itc_ok {i j c : Int} : ItOk K (Itc i c (n3 i j c)) (fun _ => True) (rg3 i j c) := by
  refine ⟨fun A B us h x => trivial, fun k A h l => (by rw [rg3_length] at l; exact l), fun k d A al h e => ?_⟩
  obtain ⟨l, rfl⟩ := rg3_get e
  refine ⟨l, fun x H' y => ?_⟩
  obtain ⟨e1, e2⟩ := y
  subst e1; subst e2
  exact ⟨Kp.refl _, .int _⟩
@[simp] def rg3F : List D → Option (List D)
  | [.int i, .int j, .int c] => if r3Ok i j c = true then some (rg3 i j c) else none
  | _ => none
@[simp] def iR3 (a : Ax) : Ax := fun ρ π => (a ρ π).bind fun x => (rg3F x.1).map fun ds => (ds, x.2)
theorem iR3_some {a : Ax} {ρ : En} {π : Pot} {ds : List D} {π' : Pot} (e : iR3 a ρ π = some (ds, π')) : ∃ es, a ρ π = some (es, π') ∧ rg3F es = some ds := by
  unfold iR3 at e
  cases ea : a ρ π with
  | none => rw [ea] at e; cases e
  | some x =>
    rw [ea] at e
    simp only [Option.bind_some] at e
    cases ed : rg3F x.1 with
    | none => rw [ed] at e; cases e
    | some z => rw [ed] at e; cases e; exact ⟨x.1, rfl, ed⟩
theorem if_rng3 {t u z : TE} {a b c : Ex} (h : BF K t a) (h2 : BF K u b) (h3 : BF K z c) : IF K (iRng3 (tCons t (tCons u (tCons z tNil)))) (iR3 (aCons a (aCons b (aCons c aNil)))) := by
  refine ⟨fun fr σ H ρ π R ds π' e Q q => ?_⟩
  obtain ⟨es, ea, ed⟩ := iR3_some e
  obtain ⟨d, π1, es2, e1, e2, rfl⟩ := aCons_some ea
  obtain ⟨d2, π2, es3, e3, e4, rfl⟩ := aCons_some e2
  obtain ⟨d3, π3, es4, e5, e6, rfl⟩ := aCons_some e4
  cases e6
  refine (ab_cons h (ab_cons h2 (ab_cons h3 ab_nil))).go fr σ H ρ π R _ π' ea _ fun vs H' R' cc b => ?_
  unfold rg3F at ed
  split at ed
  · rename_i i j k he
    cases he
    split at ed
    · rename_i ok
      cases ed
      obtain ⟨v, w, y, rfl, h1, h2, h3⟩ := dbA3 b
      obtain rfl := h1.int
      obtain rfl := h2.int
      obtain rfl := h3.int
      exact ⟨i, j, k, n3 i j k, rfl, r3_ok ok, q _ _ H' R' cc itc_ok trivial⟩
    · cases ed
  · cases ed
/-! ### xs[::-1] of a list -/
@[simp] def revL : D → Option D
  | .list ds => some (.list ds.reverse)
  | _ => none
@[simp] def xRev (f : Ex) : Ex := fun ρ π => (f ρ π).bind fun x => (revL x.1).map fun d => (d, x.2)
theorem nf_rev {t : TE} {f : Ex} (h : BF K t f) : NF K (tRevL K t) (xRev f) := by
  refine ⟨fun fr σ H ρ π R d π' e Q q => ?_⟩
  unfold xRev at e
  cases ef : f ρ π with
  | none => rw [ef] at e; cases e
  | some x =>
    rw [ef] at e
    simp only [Option.bind_some] at e
    cases er : revL x.1 with
    | none => rw [er] at e; cases e
    | some y =>
      rw [er] at e
      cases e
      unfold revL at er
      split at er
      · rename_i ds hx
        cases er
        refine h.go fr σ H ρ π R x.1 x.2 ef _ fun v H1 R1 c1 b => ?_
        rw [hx] at b
        obtain ⟨p, xs, rfl, ep, rp⟩ := b.list
        refine ⟨p, xs, rfl, sqL ep, fun l hl => ?_⟩
        exact q _ _ (R1.kp (upN hl)) (c1.trans (.of (upN hl))) ((dnNew R1.sA hl rp.reverse).back fun p h => R1.back c1 h)
      · cases er
/-! ### math.lcm, math.isqrt -/
def rLcm : List V → Hp → VK → Prop := fun vs H Q => ∃ a b : Int, vs = [.int a, .int b] ∧ a.natAbs < 2 ^ 64 ∧ b.natAbs < 2 ^ 64 ∧ Q (.int ((Nat.lcm a.natAbs b.natAbs : Nat) : Int)) H
theorem cr_lcm {X : Cx} : CallR X (.builtin "math.lcm") rLcm := by
  intro pins s σ H vs us Q I r h
  obtain ⟨a, b, rfl, ha, hb, q⟩ := h
  obtain ⟨t, u, rfl⟩ := Vals.int2 r
  have e : Nat.lcm 1 a.natAbs = a.natAbs := by simp [Nat.lcm]
  refine PySem.W.mg_lcm_v (c := ((Nat.lcm a.natAbs b.natAbs : Nat) : Int)) ha hb (by rw [e]) ?_ ⟨.int _, H, I.tok _, ⟨_, rfl⟩, q⟩
  have l : Nat.lcm a.natAbs b.natAbs < 2 ^ 128 := by
    have h1 : Nat.lcm a.natAbs b.natAbs ≤ a.natAbs * b.natAbs := Nat.div_le_self _ _
    have h2 : a.natAbs * b.natAbs < 2 ^ 64 * 2 ^ 64 := Nat.mul_lt_mul'' ha hb
    have h3 : 2 ^ 64 * 2 ^ 64 = 2 ^ 128 := by decide
    omega
  rw [Int.natAbs_natCast]
  exact Nat.lt_trans (log2Lt (show 0 < 128 by decide) l) (by decide)
def lcmOk (i j : Int) : Bool := cdec (i.natAbs < 2 ^ 64 ∧ j.natAbs < 2 ^ 64)
@[simp] def lcmF : F1 := fun ds => match ds with
  | [.int i, .int j] => if lcmOk i j = true then some (.int (Nat.lcm i.natAbs j.natAbs : Nat)) else none
  | _ => none
theorem cf_lcm : CF K rLcm lcmF := ⟨fun fr H S al vs ds hx d e Q q => by
  unfold lcmF at e
  split at e
  · split at e
    · rename_i c
      cases e
      obtain ⟨c1, c2⟩ := of_cdec c
      obtain ⟨v, w, rfl, h, h2⟩ := dbA2 hx
      obtain rfl := h.int
      obtain rfl := h2.int
      exact ⟨_, _, rfl, c1, c2, q _ H (Kp.refl _) (.int _)⟩
    · cases e
  · cases e⟩
def rIsq : List V → Hp → VK → Prop := fun vs H Q => ∃ a : Int, vs = [.int a] ∧ 0 ≤ a ∧ a < 2 ^ 64 ∧ Q (.int ((Float64.isqrt a.toNat : Nat) : Int)) H
theorem cr_isqrt {X : Cx} : CallR X (.builtin "math.isqrt") rIsq := by
  intro pins s σ H vs us Q I r h
  obtain ⟨a, rfl, h0, h1, q⟩ := h
  cases r with
  | cons r rr =>
    cases rr
    obtain ⟨t, rfl⟩ := r
    exact PySem.W.mg_isqrt h0 h1 ⟨.int _, H, I.tok _, ⟨_, rfl⟩, q⟩
def isqOk (i : Int) : Bool := cdec (0 ≤ i ∧ i < 2 ^ 64)
@[simp] def isqrtF : F1 := fun ds => match ds with
  | [.int i] => if isqOk i = true then some (.int (Float64.isqrt i.toNat : Nat)) else none
  | _ => none
theorem cf_isqrt : CF K rIsq isqrtF := ⟨fun fr H S al vs ds hx d e Q q => by
  unfold isqrtF at e
  split at e
  · split at e
    · rename_i c
      cases e
      obtain ⟨c1, c2⟩ := of_cdec c
      obtain ⟨v, rfl, h⟩ := dbA1 hx
      obtain rfl := h.int
      exact ⟨_, rfl, c1, c2, q _ H (Kp.refl _) (.int _)⟩
    · cases e
  · cases e⟩
end FL

namespace PSr
/-! Endless rows of whole numbers: sums, products, the rule n f(n) = sum s(k) f(n - k). -/
abbrev Sr := Nat → Int
def sm : Nat → (Nat → Int) → Int
  | 0, _ => 0
  | n + 1, f => sm n f + f n
@[simp] theorem sm_zero (f : Nat → Int) : sm 0 f = 0 := rfl
theorem sm_succ (n : Nat) (f : Nat → Int) : sm (n + 1) f = sm n f + f n := rfl
theorem sm_congr {n : Nat} {f g : Nat → Int} (h : ∀ i, i < n → f i = g i) : sm n f = sm n g := by
  induction n with
  | zero => rfl
  | succ n ih => rw [sm_succ, sm_succ, ih fun i l => h i (by omega), h n (by omega)]
theorem sm_add (n : Nat) (f g : Nat → Int) : sm n (fun i => f i + g i) = sm n f + sm n g := by
  induction n with
  | zero => rfl
  | succ n ih => rw [sm_succ, sm_succ, sm_succ, ih]; omega
theorem sm_mul (n : Nat) (c : Int) (f : Nat → Int) : sm n (fun i => c * f i) = c * sm n f := by
  induction n with
  | zero => simp
  | succ n ih => rw [sm_succ, sm_succ, ih, Int.mul_add]
theorem sm_mulr (n : Nat) (c : Int) (f : Nat → Int) : sm n (fun i => f i * c) = sm n f * c := by
  rw [Int.mul_comm, ← sm_mul]; exact sm_congr fun i _ => Int.mul_comm _ _
theorem sm_null {n : Nat} {f : Nat → Int} (h : ∀ i, i < n → f i = 0) : sm n f = 0 := by
  rw [sm_congr h]
  induction n with
  | zero => rfl
  | succ n ih => rw [sm_succ, ih fun i l => h i (by omega)]; rfl
/-- the first term set apart -/
theorem sm_head (n : Nat) (f : Nat → Int) : sm (n + 1) f = f 0 + sm n (fun i => f (i + 1)) := by
  induction n with
  | zero => simp [sm]
  | succ n ih => rw [sm_succ, ih, sm_succ]; omega
theorem sm_rev (n : Nat) (f : Nat → Int) : sm n (fun i => f (n - 1 - i)) = sm n f := by
  induction n with
  | zero => rfl
  | succ n ih =>
    rw [sm_head, sm_succ n f]
    have : sm n (fun i => f (n + 1 - 1 - (i + 1))) = sm n (fun i => f (n - 1 - i)) := sm_congr fun i l => by
      show f _ = f _
      congr 1; omega
    rw [this, ih]
    show f (n + 1 - 1 - 0) + _ = _
    rw [show n + 1 - 1 - 0 = n by omega]; omega
theorem sm_swap (n m : Nat) (f : Nat → Nat → Int) : sm n (fun i => sm m (f i)) = sm m (fun j => sm n (fun i => f i j)) := by
  induction n with
  | zero => exact (sm_null fun j _ => rfl).symm
  | succ n ih =>
    rw [sm_succ, ih, ← sm_add]
    rfl
/-- more terms, all of them 0 -/
theorem sm_more {n m : Nat} {f : Nat → Int} (h : n ≤ m) (z : ∀ i, n ≤ i → i < m → f i = 0) : sm m f = sm n f := by
  induction m with
  | zero => have : n = 0 := by omega
            subst this; rfl
  | succ m ih =>
    by_cases c : n = m + 1
    · subst c; rfl
    · rw [sm_succ, ih (by omega) fun i a b => z i a (by omega), z m (by omega) (by omega)]; omega
/-- one term alone -/
theorem sm_one {n k : Nat} {f : Nat → Int} (h : k < n) (z : ∀ i, i < n → i ≠ k → f i = 0) : sm n f = f k := by
  induction n with
  | zero => omega
  | succ n ih =>
    rw [sm_succ]
    by_cases c : k = n
    · subst c; rw [sm_null fun i l => z i (by omega) (by omega)]; omega
    · rw [ih (by omega) fun i l => z i (by omega), z n (by omega) (by omega)]; omega
/-- the product of rows -/
def cv (f g : Sr) : Sr := fun n => sm (n + 1) (fun i => f i * g (n - i))
theorem cv_comm (f g : Sr) : cv f g = cv g f := by
  funext n
  unfold cv
  rw [← sm_rev (n + 1) (fun i => f i * g (n - i))]
  refine sm_congr fun i l => ?_
  show f (n + 1 - 1 - i) * g (n - (n + 1 - 1 - i)) = g i * f (n - i)
  rw [show n + 1 - 1 - i = n - i by omega, show n - (n - i) = i by omega, Int.mul_comm]
def ite0 (c : Prop) [Decidable c] (x : Int) : Int := if c then x else 0
/-- both sums over all pairs below n + 1 -/
theorem cv_all (f g : Sr) (n : Nat) : cv f g n = sm (n + 1) (fun i => sm (n + 1) (fun j => if i + j = n then f i * g j else 0)) := by
  refine sm_congr fun i l => ?_
  rw [sm_one (k := n - i) (by omega) (fun j a b => if_neg (by omega)), if_pos (by omega)]
/-- the same with a wider frame -/
theorem cv_wide (f g : Sr) {n m : Nat} (h : n ≤ m) : cv f g n = sm (m + 1) (fun i => sm (m + 1) (fun j => if i + j = n then f i * g j else 0)) := by
  rw [cv_all, ← sm_more (show n + 1 ≤ m + 1 by omega) (f := fun i => sm (n + 1) (fun j => if i + j = n then f i * g j else 0)) fun i a b => sm_null fun j c => if_neg (by omega)]
  refine sm_congr fun i l => ?_
  exact (sm_more (show n + 1 ≤ m + 1 by omega) fun j a b => if_neg (by omega)).symm
/-- threefold sums -/
def cv3 (f g h : Sr) (n : Nat) : Int := sm (n + 1) (fun i => sm (n + 1) (fun j => sm (n + 1) (fun k => if i + j + k = n then f i * g j * h k else 0)))
theorem cv_assoc1 (f g h : Sr) (n : Nat) : cv (cv f g) h n = cv3 f g h n := by
  have e1 : cv (cv f g) h n = sm (n + 1) (fun k => sm (n + 1) (fun i => sm (n + 1) (fun j => if i + j + k = n then f i * g j * h k else 0))) := by
    rw [cv_comm]
    refine sm_congr fun k l => ?_
    rw [cv_wide f g (show n - k ≤ n by omega), ← sm_mul]
    refine sm_congr fun i _ => ?_
    rw [← sm_mul]
    refine sm_congr fun j _ => ?_
    by_cases c : i + j = n - k
    · rw [if_pos c, if_pos (by omega), Int.mul_comm]
    · rw [if_neg c, if_neg (by omega), Int.mul_zero]
  rw [e1, sm_swap]
  refine sm_congr fun i _ => ?_
  rw [sm_swap]
theorem cv_assoc2 (f g h : Sr) (n : Nat) : cv f (cv g h) n = cv3 f g h n := by
  refine sm_congr fun i l => ?_
  rw [cv_wide g h (show n - i ≤ n by omega), ← sm_mul]
  refine sm_congr fun j _ => ?_
  rw [← sm_mul]
  refine sm_congr fun k _ => ?_
  by_cases c : j + k = n - i
  · rw [if_pos c, if_pos (by omega), Int.mul_assoc]
  · rw [if_neg c, if_neg (by omega), Int.mul_zero]
theorem cv_assoc (f g h : Sr) : cv (cv f g) h = cv f (cv g h) := by
  funext n
  rw [cv_assoc1, cv_assoc2]
theorem cv_add (f g h : Sr) : cv f (fun n => g n + h n) = fun n => cv f g n + cv f h n := by
  funext n
  unfold cv
  rw [← sm_add]
  exact sm_congr fun i _ => Int.mul_add _ _ _
theorem add_cv (f g h : Sr) : cv (fun n => f n + g n) h = fun n => cv f h n + cv g h n := by
  rw [cv_comm, cv_add, cv_comm h f, cv_comm h g]
/-- the row 1, 0, 0, ... -/
def one : Sr := fun n => if n = 0 then 1 else 0
theorem cv_one (f : Sr) : cv f one = f := by
  funext n
  unfold cv
  rw [sm_one (k := n) (by omega) fun i a b => by unfold one; rw [if_neg (by omega), Int.mul_zero]]
  unfold one
  rw [if_pos (by omega), Int.mul_one]
theorem one_cv (f : Sr) : cv one f = f := by rw [cv_comm, cv_one]
/-- places times numbers -/
def dd (f : Sr) : Sr := fun n => (n : Int) * f n
theorem dd_cv (f g : Sr) : dd (cv f g) = fun n => cv (dd f) g n + cv f (dd g) n := by
  funext n
  unfold dd cv
  rw [← sm_mul, ← sm_add]
  refine sm_congr fun i l => ?_
  show (n : Int) * (f i * g (n - i)) = (i : Int) * f i * g (n - i) + f i * (((n - i : Nat) : Int) * g (n - i))
  have : (n : Int) = (i : Int) + ((n - i : Nat) : Int) := by omega
  rw [this, Int.add_mul, Int.mul_assoc, Int.mul_left_comm ((n - i : Nat) : Int) (f i)]
/-- the rule: n f(n) = sum s(k) f(n - k) -/
def Ld (s f : Sr) : Prop := dd f = cv s f
theorem ld_cv {s t f g : Sr} (h : Ld s f) (k : Ld t g) : Ld (fun n => s n + t n) (cv f g) := by
  unfold Ld at *
  rw [dd_cv, h, k, add_cv]
  funext n
  show cv (cv s f) g n + cv f (cv t g) n = cv s (cv f g) n + cv t (cv f g) n
  rw [cv_assoc s f g, ← cv_assoc f t g, cv_comm f t, cv_assoc t f g]
theorem ld_one : Ld (fun _ => 0) one := by
  unfold Ld
  funext n
  have e : PSr.cv (fun _ => 0) one n = 0 := sm_null fun i _ => Int.zero_mul _
  rw [e]
  unfold dd PSr.one
  by_cases c : n = 0
  · subst c; rfl
  · rw [if_neg c, Int.mul_zero]
/-- the rule tells the row by its first number -/
theorem ld_uniq {s f g : Sr} (h : Ld s f) (k : Ld s g) (s0 : s 0 = 0) (e : f 0 = g 0) : f = g := by
  have main : ∀ m n, n ≤ m → f n = g n := by
    intro m
    induction m with
    | zero => intro n l; rw [show n = 0 by omega]; exact e
    | succ m ih =>
      intro n l
      by_cases c : n ≤ m
      · exact ih n c
      have hn : n = m + 1 := by omega
      subst hn
      have h1 := congrFun h (m + 1)
      have k1 := congrFun k (m + 1)
      have same : PSr.cv s f (m + 1) = PSr.cv s g (m + 1) := by
        refine sm_congr fun i l => ?_
        by_cases c : i = 0
        · subst c; rw [s0, Int.zero_mul, Int.zero_mul]
        · rw [ih (m + 1 - i) (by omega)]
      rw [same, ← k1] at h1
      unfold dd at h1
      exact Int.eq_of_mul_eq_mul_left (by omega) h1
  funext n
  exact main n n (Nat.le_refl _)
/-- the same for the numbers before a place -/
theorem ld_uniqN {s t f g : Sr} {N : Nat} (h : ∀ n, n < N → dd f n = PSr.cv s f n) (k : ∀ n, n < N → dd g n = PSr.cv t g n) (st : ∀ n, n < N → s n = t n) (s0 : 0 < N → s 0 = 0) (e : 0 < N → f 0 = g 0) : ∀ n, n < N → f n = g n := by
  have main : ∀ m n, n ≤ m → n < N → f n = g n := by
    intro m
    induction m with
    | zero => intro n l b; rw [show n = 0 by omega]; exact e (by omega)
    | succ m ih =>
      intro n l b
      by_cases c : n ≤ m
      · exact ih n c b
      have hn : n = m + 1 := by omega
      subst hn
      have h1 := h _ b
      have k1 := k _ b
      have same : PSr.cv s f (m + 1) = PSr.cv t g (m + 1) := by
        refine sm_congr fun i l => ?_
        rw [← st i (by omega)]
        by_cases c : i = 0
        · subst c; rw [s0 (by omega), Int.zero_mul, Int.zero_mul]
        · rw [ih (m + 1 - i) (by omega) (by omega)]
      rw [same, ← k1] at h1
      unfold dd at h1
      exact Int.eq_of_mul_eq_mul_left (by omega) h1
  exact fun n b => main n n (Nat.le_refl _) b
/-- 1 - x^d -/
def st (d : Nat) : Sr := fun n => if n = 0 then 1 else if n = d then -1 else 0
/-- 1 / (1 - x^d) -/
def geo (d : Nat) : Sr := fun n => if n % d = 0 then 1 else 0
/-- d at the places that d divides -/
def dv (d : Nat) : Sr := fun n => if n = 0 then 0 else if n % d = 0 then (d : Int) else 0
theorem cv_st (d : Nat) (hd : 0 < d) (f : Sr) (n : Nat) : cv f (st d) n = f n - (if d ≤ n then f (n - d) else 0) := by
  rw [cv_comm]
  show sm (n + 1) (fun i => st d i * f (n - i)) = _
  rw [sm_head]
  have a : st d 0 * f (n - 0) = f n := by unfold st; rw [if_pos rfl, Int.one_mul, Nat.sub_zero]
  rw [a]
  by_cases c : d ≤ n
  · rw [if_pos c, sm_one (k := d - 1) (by omega) fun i x y => by unfold st; rw [if_neg (by omega), if_neg (by omega), Int.zero_mul]]
    unfold st
    rw [if_neg (by omega), if_pos (by omega), show n - (d - 1 + 1) = n - d by omega]
    omega
  · rw [if_neg c, sm_null fun i l => by unfold st; rw [if_neg (by omega), if_neg (by omega), Int.zero_mul]]
    omega
theorem geo_st (d : Nat) (hd : 0 < d) : cv (geo d) (st d) = one := by
  funext n
  rw [cv_st d hd]
  unfold geo one
  by_cases c : n = 0
  · subst c
    rw [if_pos (Nat.zero_mod _), if_neg (by omega)]; rfl
  · rw [if_neg c]
    by_cases l : d ≤ n
    · rw [if_pos l]
      have : n % d = (n - d) % d := by rw [Nat.mod_eq_sub_mod l]
      rw [← this]; omega
    · rw [if_neg l, if_neg (by rw [Nat.mod_eq_of_lt (by omega)]; exact c)]; rfl
theorem ld_st (d : Nat) (hd : 0 < d) : Ld (fun n => - dv d n) (PSr.st d) := by
  unfold Ld
  funext n
  rw [cv_st d hd]
  unfold dd PSr.st dv
  by_cases c : n = 0
  · subst c
    rw [if_pos rfl, if_pos rfl, if_neg (by omega)]; simp
  · by_cases l : d ≤ n
    · by_cases e : n = d
      · subst e; simp [c]
      · rw [if_neg c, if_neg c, if_neg e, if_pos l, if_neg (show ¬ (n - d = 0) by omega), Nat.mod_eq_sub_mod l]
        split <;> omega
    · rw [if_neg c, if_neg c, if_neg l, if_neg (show ¬ (n = d) by omega), if_neg (show ¬ (n % d = 0) by rw [Nat.mod_eq_of_lt (by omega)]; exact c)]; omega
theorem ld_geo (d : Nat) (hd : 0 < d) : Ld (dv d) (PSr.geo d) := by
  have e := geo_st d hd
  have h := dd_cv (PSr.geo d) (PSr.st d)
  rw [e] at h
  have o := ld_one
  unfold Ld at o
  have z : PSr.cv (fun _ => 0) PSr.one = fun _ => 0 := by funext n; exact sm_null fun i _ => Int.zero_mul _
  rw [o, z, ld_st d hd] at h
  have hz : PSr.cv (dd (PSr.geo d)) (PSr.st d) = PSr.cv (PSr.cv (dv d) (PSr.geo d)) (PSr.st d) := by
    funext n
    have hn := congrFun h n
    have r : PSr.cv (PSr.geo d) (PSr.cv (fun n => - dv d n) (PSr.st d)) n = - PSr.cv (PSr.cv (dv d) (PSr.geo d)) (PSr.st d) n := by
      rw [← cv_assoc, cv_comm (PSr.geo d) (fun n => - dv d n), cv_assoc, cv_assoc]
      have : PSr.cv (fun n => - dv d n) (PSr.cv (PSr.geo d) (PSr.st d)) n = -1 * PSr.cv (dv d) (PSr.cv (PSr.geo d) (PSr.st d)) n := by
        unfold PSr.cv
        rw [← sm_mul]
        refine sm_congr fun i _ => ?_
        rw [← Int.mul_assoc, Int.neg_mul 1, Int.one_mul]
      rw [this]; omega
    have hn : 0 = PSr.cv (dd (PSr.geo d)) (PSr.st d) n + PSr.cv (PSr.geo d) (PSr.cv (fun n => - dv d n) (PSr.st d)) n := hn
    rw [r] at hn
    omega
  have fin : PSr.cv (PSr.cv (dd (PSr.geo d)) (PSr.st d)) (PSr.geo d) = PSr.cv (PSr.cv (PSr.cv (dv d) (PSr.geo d)) (PSr.st d)) (PSr.geo d) := by rw [hz]
  rw [cv_assoc, cv_assoc _ (PSr.st d), cv_comm (PSr.st d), e, cv_one, cv_one] at fin
  exact fin
end PSr

noncomputable section
namespace FL
open PySem PySem.Spec PyProof.Rows L2 EP
/-! ### rows of numbers as data -/
def rowI (N : Nat) (f : Nat → Int) : List D := (List.range N).map fun i => .int (f i)
@[simp] theorem rowI_length (N : Nat) (f : Nat → Int) : (rowI N f).length = N := by simp [rowI]
theorem rowI_get {N : Nat} {f : Nat → Int} {i : Nat} (h : i < N) : (rowI N f)[i]? = some (.int (f i)) := by
  unfold rowI
  rw [List.getElem?_map, List.getElem?_range h]; rfl
theorem rowI_none {N : Nat} {f : Nat → Int} {i : Nat} (h : N ≤ i) : (rowI N f)[i]? = none := List.getElem?_eq_none (by simp; exact h)
theorem rowI_at {N : Nat} {f : Nat → Int} {i : Int} (h0 : 0 ≤ i) (h : i.toNat < N) : atI (rowI N f) i = some (.int (f i.toNat)) := by
  rw [atI_of (show i = (i.toNat : Int) by omega), rowI_get h]
theorem rowI_congr {N : Nat} {f g : Nat → Int} (h : ∀ i, i < N → f i = g i) : rowI N f = rowI N g := List.map_congr_left fun i hi => by rw [h i (List.mem_range.mp hi)]
theorem rowI_succ (N : Nat) (f : Nat → Int) : rowI (N + 1) f = rowI N f ++ [.int (f N)] := by
  unfold rowI
  rw [List.range_succ, List.map_append]; rfl
theorem rowI_cons (N : Nat) (f : Nat → Int) : rowI (N + 1) f = .int (f 0) :: rowI N (fun i => f (i + 1)) := by
  unfold rowI
  rw [List.range_succ_eq_map, List.map_cons, List.map_map]; rfl
theorem rowI_ext {N : Nat} {f : Nat → Int} {xs : List D} (l : xs.length = N) (h : ∀ i, i < N → xs[i]? = some (.int (f i))) : xs = rowI N f := by
  refine List.ext_getElem? fun i => ?_
  by_cases c : i < N
  · rw [h i c, rowI_get c]
  · rw [rowI_none (by omega), List.getElem?_eq_none (by omega)]
theorem rowI_set {N : Nat} {f : Nat → Int} {j : Nat} {x : Int} : (rowI N f).set j (.int x) = rowI N (fun i => if i = j then x else f i) := by
  refine rowI_ext (by simp) fun i hi => ?_
  by_cases c : i = j
  · subst c
    rw [List.getElem?_set_self (by simpa using hi), if_pos rfl]
  · rw [List.getElem?_set_ne (Ne.symm c), rowI_get hi, if_neg c]
theorem rg_rowI (lo : Int) (N : Nat) : rg lo N = rowI N (fun i => lo + i) := rfl
theorem intsO_rowI : ∀ (N : Nat) (f : Nat → Int), intsO (rowI N f) = some ((List.range N).map f) := by
  intro N
  induction N with
  | zero => intro f; rfl
  | succ N ih =>
    intro f
    rw [rowI_cons, List.range_succ_eq_map, List.map_cons, List.map_map]
    simp [intsO, ih]
theorem sum_rowI : ∀ (N : Nat) (f : Nat → Int), ((List.range N).map f).sum = PSr.sm N f := by
  intro N
  induction N with
  | zero => intro f; rfl
  | succ N ih => intro f; rw [List.range_succ, List.map_append, List.sum_append, ih, PSr.sm_succ]; simp
theorem sumF_rowI (N : Nat) (f : Nat → Int) : sumF [.list (rowI N f)] = some (.int (PSr.sm N f)) := by
  simp only [sumF, intsO_rowI, Option.map_some, sum_rowI]
/-- a list display over a range -/
theorem lcGo_rg {tg : Gx} {tt : Tx} {el : Ex} {ρw : En} {π : Pot} (lo : Int) (N : Nat) (f : Nat → Int) (h : ∀ i : Nat, i < N → ∃ ρ2, tg (.int (lo + i)) ρw = some ρ2 ∧ tt ρ2 π = some (true, π) ∧ el ρ2 π = some (.int (f i), π)) :
    lcGo tg tt el ρw (rg lo N) π = some (rowI N f, π) := by
  rw [lcGo_map (fun d => match d with | .int p => .int (f (p - lo).toNat) | d => d) (rg lo N) fun d hd => ?_]
  · congr 1
    congr 1
    refine rowI_ext (by simp [rg_length]) fun i hi => ?_
    rw [List.getElem?_map, rg_rowI, rowI_get hi]
    simp
    congr 1; omega
  · obtain ⟨i, hi⟩ := List.getElem?_of_mem hd
    obtain ⟨li, rfl⟩ := rg_get hi
    obtain ⟨ρ2, e1, e2, e3⟩ := h i li
    refine ⟨ρ2, e1, e2, ?_⟩
    rw [e3]
    simp
    congr 1; omega
theorem zipD_length : ∀ (ds es : List D), (zipD ds es).length = min ds.length es.length
  | [], _ => by simp
  | _ :: _, [] => by simp
  | d :: ds, e :: es => by simp [zipD_length ds es]
/-- a list display over two rows -/
theorem lcGo_zip {tg : Gx} {tt : Tx} {el : Ex} {ρw : En} {π : Pot} (N M : Nat) (f g : Nat → Int) (k : Nat → Int) (h : ∀ i : Nat, i < N → i < M → ∃ ρ2, tg (.tuple [.int (f i), .int (g i)]) ρw = some ρ2 ∧ tt ρ2 π = some (true, π) ∧ el ρ2 π = some (.int (k i), π)) :
    lcGo tg tt el ρw (zipD (rowI N f) (rowI M g)) π = some (rowI (min N M) k, π) := by
  induction N generalizing M f g k with
  | zero => simp [rowI]
  | succ N ih =>
    cases M with
    | zero => simp [rowI]
    | succ M =>
      obtain ⟨ρ2, e1, e2, e3⟩ := h 0 (by omega) (by omega)
      have r := ih M (fun i => f (i + 1)) (fun i => g (i + 1)) (fun i => k (i + 1)) (fun i a b => h (i + 1) (by omega) (by omega))
      rw [rowI_cons N f, rowI_cons M g, show min (N + 1) (M + 1) = min N M + 1 by omega, rowI_cons (min N M) k]
      simp only [zipD, lcGo, e1, e2, e3, r, Option.bind_some, if_true, Option.map_some]
theorem rowI_reverse (N : Nat) (f : Nat → Int) : (rowI N f).reverse = rowI N (fun i => f (N - 1 - i)) := by
  refine rowI_ext (by simp) fun i hi => ?_
  rw [List.getElem?_reverse (by simpa using hi), rowI_length, rowI_get (by omega)]
theorem rowI_replicate (N : Nat) (x : Int) : List.replicate N (.int x : D) = rowI N (fun _ => x) := by
  refine rowI_ext (by simp) fun i hi => ?_
  rw [List.getElem?_replicate, if_pos hi]
theorem rowI_drop (N : Nat) (f : Nat → Int) : (rowI (N + 1) f).drop 1 = rowI N (fun i => f (i + 1)) := by rw [rowI_cons]; rfl
theorem rowI_take {N k : Nat} (f : Nat → Int) (h : k ≤ N) : (rowI N f).take k = rowI k f := by
  refine rowI_ext (by simp; omega) fun i hi => ?_
  rw [List.getElem?_take, if_pos hi, rowI_get (by omega)]
end FL

noncomputable section
namespace FL
open PySem PySem.Spec PyProof.Rows L2 EP
variable {K : PySem.W.Frag}
/-! ### xs[a:b:c] of a list -/
def pickL {α : Type} (xs : List α) (lo hi st : Option Int) : List α :=
  (sliceRange (sliceBounds lo hi st xs.length).1 (sliceBounds lo hi st xs.length).2.1 (sliceBounds lo hi st xs.length).2.2).filterMap (xs[·]?)
def tStL (K : PySem.W.Frag) (te : TE) (tl th ts : TO) : TE := fun σ H Q => te σ H fun x H1 => tl σ H1 fun lo H2 => th σ H2 fun hi H3 => ts σ H3 fun st H4 => ∃ a xs, x = .ref a ∧ SqL K H4 a xs ∧ st ≠ some 0 ∧ (pickL xs lo hi st).length ≤ xs.length ∧ ∀ p, H4 p = none → Q (.ref p) (upd H4 p (.lst (pickL xs lo hi st)))
theorem vals_pick {xs : List V} {its : List Value} (r : Vals xs its) : ∀ ks : List Nat, Vals (ks.filterMap (xs[·]?)) (ks.filterMap (its[·]?))
  | [] => .nil
  | k :: ks => by
    have ih := vals_pick r ks
    cases h : xs[k]? with
    | none =>
      have : its[k]? = none := by
        rw [List.getElem?_eq_none_iff] at h ⊢
        rw [← r.length]; exact h
      rw [List.filterMap_cons_none h, List.filterMap_cons_none this]; exact ih
    | some v =>
      obtain ⟨w, ew, rw'⟩ := r.get h
      rw [List.filterMap_cons_some h, List.filterMap_cons_some ew]
      exact .cons rw' ih
section
variable {X : Cx} {pos : Pos}
theorem pe_stL {e : Expr} {te : TE} {lo hi : Option Expr} {st : Expr} {tl th ts : TO} {p3 : Pos} (he : PE X e te) (hl : PO X lo tl) (hh : PO X hi th) (hst : PO X (some st) ts)
    (hpl : ∀ o i, subscripted (.Slice lo hi (some st) p3) false o i = operate [o, i] (getItem o i) := by intros; with_unfolding_all rfl) : PE X (.Subscript e (.Slice lo hi (some st) p3) pos) (tStL X.K te tl th ts) := by
  refine ⟨fun pins s σ H Q I h => ?_⟩
  refine Subscript_ (thn (he.run pins s σ H _ I h) fun v s1 ⟨x, H1, I1, r1, q1⟩ => ?_)
  refine wpAny_Slice (thn (hl.run pins s1 σ H1 _ I1 q1) fun vl s2 ⟨l, H2, I2, pl, q2⟩ => ?_)
  refine thn (hh.run pins s2 σ H2 _ I2 q2) fun vu s3 ⟨u, H3, I3, pu, q3⟩ => ?_
  refine thn (hst.run pins s3 σ H3 _ I3 q3) fun vs s4 ⟨o, H4, I4, ps, q4⟩ => ?_
  obtain ⟨a, xs, ex, hx, o0, pz, q⟩ := q4
  subst ex
  cases r1
  have I5 : Inv X pins σ H4 { s4 with heap := s4.heap.push { cls := .type "slice", data := .fields #[vl, vu, vs] } } := I4.kept (t' := s4.toks) fun b ob q => Heap.get?_push_of_some _ q
  obtain ⟨its, r, ht, hz⟩ := I5.list hx
  have hlen := r.length
  show wpAny (model X.prog X.w) X.A (subscriptTail e (.Slice lo hi (some st) p3) (.ref a) (.ref s4.heap.objs.size)) (EP X pins σ Q) X.xe { s4 with heap := s4.heap.push { cls := .type "slice", data := .fields #[vl, vu, vs] } }
  refine tail_any (ops := [.ref a, .ref s4.heap.objs.size]) ht.isList.typeIs (PySem.slot_list_getitem.lookup) ?_ (hpl _ _)
  refine wpAny_getItem_list_slice ht.isList (Heap.IsSliceOf.new _ vl vu vs) pl pu ps o0 ?_ (by rw [List.size_toArray]; omega)
  have e1 : slicePick its.toArray l u o = (pickL its l u o).toArray := by
    unfold slicePick pickL
    simp
  rw [e1]
  have r2 : Vals (pickL xs l u o) (pickL its l u o) := by
    unfold pickL
    rw [hlen]
    exact vals_pick r _
  refine ⟨.ref _, _, I5.laid (t' := s4.toks) (o := .lst (pickL xs l u o)) (fun b ob q => Heap.get?_push_of_some _ q) (Nat.le_refl _) ?_, rfl, q _ (I5.hok.fresh (Nat.le_refl _))⟩
  exact ⟨by omega, _, 0, r2, Heap.get?_push_size _ rfl⟩
end
theorem DvA.pick {H : Hp} {S : Addr → Prop} {xs : List V} {ds : List D} (r : DvA K H S xs ds) : ∀ ks : List Nat, DvA K H S (ks.filterMap (xs[·]?)) (ks.filterMap (ds[·]?))
  | [] => .nil
  | k :: ks => by
    have ih := r.pick ks
    cases h : ds[k]? with
    | none =>
      have : xs[k]? = none := by
        rw [List.getElem?_eq_none_iff] at h ⊢
        rw [r.length]; exact h
      rw [List.filterMap_cons_none h, List.filterMap_cons_none this]; exact ih
    | some d =>
      have hk : k < ds.length := (List.getElem?_eq_some_iff.mp h).1
      obtain ⟨v, e, dv⟩ := atI_dv r (show atI ds (k : Int) = some d by rw [atI_of rfl, h])
      rw [atI_of rfl] at e
      rw [List.filterMap_cons_some h, List.filterMap_cons_some e]
      exact .cons dv ih
@[simp] def stepL : D → Option Int → Option Int → Option Int → Option D
  | .list ds, lo, hi, st => if st ≠ some 0 ∧ (pickL ds lo hi st).length ≤ ds.length then some (.list (pickL ds lo hi st)) else none
  | _, _, _, _ => none
@[simp] def xSt (a : Ex) (l h s : PxF) : Ex := fun ρ π => (a ρ π).bind fun x => (l ρ x.2).bind fun y => (h ρ y.2).bind fun z => (s ρ z.2).bind fun w => (stepL x.1 y.1 z.1 w.1).map fun d => (d, w.2)
theorem xSt_some {a : Ex} {l h s : PxF} {ρ : En} {π : Pot} {d : D} {π' : Pot} (e : xSt a l h s ρ π = some (d, π')) : ∃ dx π1 lo π2 hi π3 st, a ρ π = some (dx, π1) ∧ l ρ π1 = some (lo, π2) ∧ h ρ π2 = some (hi, π3) ∧ s ρ π3 = some (st, π') ∧ stepL dx lo hi st = some d := by
  unfold xSt at e
  cases ea : a ρ π with
  | none => rw [ea] at e; cases e
  | some x =>
    rw [ea] at e
    simp only [Option.bind_some] at e
    cases eb : l ρ x.2 with
    | none => rw [eb] at e; cases e
    | some y =>
      rw [eb] at e
      simp only [Option.bind_some] at e
      cases ec : h ρ y.2 with
      | none => rw [ec] at e; cases e
      | some z =>
        rw [ec] at e
        simp only [Option.bind_some] at e
        cases ed : s ρ z.2 with
        | none => rw [ed] at e; cases e
        | some w =>
          rw [ed] at e
          simp only [Option.bind_some] at e
          cases ef : stepL x.1 y.1 z.1 w.1 with
          | none => rw [ef] at e; cases e
          | some u =>
            rw [ef] at e
            cases e
            exact ⟨x.1, x.2, y.1, y.2, z.1, z.2, w.1, rfl, eb, ec, ed, ef⟩
theorem nf_st {ta : TE} {tl th ts : TO} {fa : Ex} {fl fh fs : PxF} (ha : BF K ta fa) (hl : PF K tl fl) (hh : PF K th fh) (hs : PF K ts fs) : NF K (tStL K ta tl th ts) (xSt fa fl fh fs) := by
  refine ⟨fun fr σ H ρ π R d π' e Q q => ?_⟩
  obtain ⟨dx, π1, lo, π2, hi, π3, st, ea, el, eh, es, ed⟩ := xSt_some e
  refine ha.go fr σ H ρ π R dx π1 ea _ fun x H1 R1 c1 bx => ?_
  refine hl.go fr σ H1 ρ π1 R1 lo π2 el _ fun H2 R2 c2 => ?_
  refine hh.go fr σ H2 ρ π2 R2 hi π3 eh _ fun H3 R3 c3 => ?_
  refine hs.go fr σ H3 ρ π3 R3 st π' es _ fun H4 R4 c4 => ?_
  have b := ((bx.chg R1 c2).chg R2 c3).chg R3 c4
  unfold stepL at ed
  split at ed
  · rename_i ds
    split at ed
    · rename_i c
      cases ed
      obtain ⟨p, xs, rfl, ep, rp⟩ := b.list
      have lx : (pickL xs lo hi st).length ≤ xs.length ∧ DvA K H4 (wd fr σ ρ H4).S (pickL xs lo hi st) (pickL ds lo hi st) := by
        have r : DvA K H4 (wd fr σ ρ H4).S (pickL xs lo hi st) (pickL ds lo hi st) := by
          unfold pickL
          rw [rp.length]
          exact rp.pick _
        exact ⟨by rw [r.length, rp.length]; exact c.2, r⟩
      refine ⟨p, xs, rfl, sqL ep, c.1, lx.1, fun l hl => ?_⟩
      exact q _ _ (R4.kp (upN hl)) (c1.trans (c2.trans (c3.trans (c4.trans (.of (upN hl)))))) ((dnNew R4.sA hl lx.2).back fun p h => R1.back c1 (R2.back c2 (R3.back c3 (R4.back c4 h))))
    · cases ed
  · cases ed
/-! ### what slices with a step pick of rows -/
theorem pick_rowI {N : Nat} (f : Nat → Int) (g : Nat → Nat) : ∀ c, (∀ i, i < c → g i < N) → ((List.range c).map g).filterMap ((rowI N f)[·]?) = rowI c (fun i => f (g i))
  | 0, _ => rfl
  | c + 1, h => by
    rw [List.range_succ, List.map_append, List.filterMap_append, pick_rowI f g c fun i l => h i (by omega), rowI_succ]
    congr 1
    simp [rowI_get (h c (by omega))]
/-- xs[p::-1] -/
theorem pick_down {N p : Nat} (h : p < N) (f : Nat → Int) : pickL (rowI N f) (some (p : Int)) none (some (-1)) = rowI (p + 1) (fun i => f (p - i)) := by
  have e : sliceBounds (some (p : Int)) none (some (-1)) N = ((p : Int), -1, -1) := by
    simp only [sliceBounds, Option.getD_some]
    rw [if_neg (show ¬ ((-1 : Int) > 0) by decide), if_neg (show ¬ (p : Int) < 0 by omega), if_neg (show ¬ ((-1 : Int) > 0) by decide)]
    congr 1
    omega
  unfold pickL
  rw [rowI_length, e]
  show (sliceRange (p : Int) (-1) (-1)).filterMap _ = _
  have e2 : sliceRange (p : Int) (-1) (-1) = (List.range (p + 1)).map fun k => p - k := by
    unfold sliceRange
    simp only
    rw [if_neg (by decide), if_pos (by omega)]
    have : ((p : Int) - -1 - -1 - 1) / (- -1) = ((p + 1 : Nat) : Int) := by
      rw [show (- -1 : Int) = 1 by decide, Int.ediv_one]; omega
    rw [this, Int.toNat_natCast]
    refine List.map_congr_left fun k hk => ?_
    have := List.mem_range.mp hk
    omega
  rw [e2, pick_rowI f (fun k => p - k) (p + 1) fun i _ => by omega]
/-- xs[t::m] -/
theorem pick_up {N t m : Nat} (hm : 0 < m) (h : t ≤ N) (f : Nat → Int) : pickL (rowI N f) (some (t : Int)) none (some (m : Int)) = rowI ((N - t + m - 1) / m) (fun i => f (t + m * i)) := by
  have e : sliceBounds (some (t : Int)) none (some (m : Int)) N = ((t : Int), (N : Int), (m : Int)) := by
    simp only [sliceBounds, Option.getD_some]
    rw [if_pos (show (m : Int) > 0 by omega), if_pos (show (m : Int) > 0 by omega), if_neg (show ¬ (t : Int) < 0 by omega)]
    congr 1
    omega
  unfold pickL
  rw [rowI_length, e]
  show (sliceRange (t : Int) (N : Int) (m : Int)).filterMap _ = _
  have e2 : sliceRange (t : Int) (N : Int) (m : Int) = (List.range ((N - t + m - 1) / m)).map fun k => t + m * k := by
    unfold sliceRange
    simp only
    rw [if_pos (show (m : Int) > 0 by omega)]
    have e3 : (if (t : Int) < (N : Int) then ((N : Int) - (t : Int) + (m : Int) - 1) / (m : Int) else 0) = (((N - t + m - 1) / m : Nat) : Int) := by
      by_cases c : t < N
      · rw [if_pos (by omega)]
        have : (N : Int) - (t : Int) + (m : Int) - 1 = ((N - t + m - 1 : Nat) : Int) := by omega
        rw [this]; rfl
      · rw [if_neg (by omega)]
        have : (N - t + m - 1) / m = 0 := Nat.div_eq_of_lt (by omega)
        rw [this]; rfl
    rw [e3, Int.toNat_natCast]
    refine List.map_congr_left fun k _ => ?_
    have : (t : Int) + (m : Int) * (k : Int) = ((t + m * k : Nat) : Int) := by push_cast; rfl
    rw [this]; rfl
  rw [e2, pick_rowI f (fun k => t + m * k) _ fun i hi => by
    have h1 : (i + 1) * m ≤ N - t + m - 1 := (Nat.le_div_iff_mul_le hm).mp hi
    rw [Nat.add_mul, Nat.one_mul, Nat.mul_comm] at h1
    omega]
end FL

noncomputable section
namespace FL
open PySem PySem.Spec PyProof.Rows L2 EP
variable {K : PySem.W.Frag}
/-! ### not in -/
theorem op_ninA {X : Cx} (hu : X.A.units + 66 < cLine) : OpR X (compareOp .NotIn) (rInA X.K true) := (op_notInD (show X.A.units + 65 < cLine by omega)).or op_notIn_seq
def ninF : F2 := fun x y => match y with
  | .list ds => if SeqAt.shaped x = true ∧ SeqAt.shaped (.list ds) = true then some (.bool (!(ds.any fun z => PyData.eqv z x))) else none
  | .tuple ds => if flatD x = true ∧ ds.all flatD = true then some (.bool (!(inV (flatVD x) (ds.map flatVD)))) else none
  | _ => none
theorem of_nin : OF K (rInA K true) ninF := ⟨fun fr H S al x y dx dy hx hy d e Q q => by
  unfold ninF at e
  split at e
  · split at e
    · rename_i ds c
      cases e
      left
      rw [if_pos rfl]
      exact ⟨dx, ds, hx.dp (shaped_lay c.1), hy.dp (shaped_lay c.2), c.1, c.2, q _ H (Kp.refl _) (.bl _)⟩
    · cases e
  · split at e
    · rename_i ds c
      cases e
      right
      obtain ⟨p, xs, rfl, ep, rp⟩ := hy.tuple
      obtain ⟨e1, e2⟩ := hx.flatV c.1
      obtain ⟨e3, e4⟩ := DvA.flat (fr := fr) rp c.2
      refine ⟨p, xs, rfl, .inr ep.sq, e2, e4, ?_⟩
      rw [if_pos rfl, e1, e3]
      exact q _ H (Kp.refl _) (.bl _)
    · cases e
  · cases e⟩
/-! ### rows of whole numbers told by lists -/
theorem shpI_all : ∀ (ns : List Int), PyData.canLayAll0 (ns.map PyData.int) = true ∧ PyData.depthAll (ns.map PyData.int) ≤ 1
  | [] => ⟨rfl, Nat.zero_le _⟩
  | i :: r => by
    obtain ⟨a, b⟩ := shpI_all r
    refine ⟨?_, ?_⟩
    · show (PyData.canLay0 (.int i) && PyData.canLayAll0 (r.map PyData.int)) = true
      rw [a]; rfl
    · show max (PyData.depth (.int i)) (PyData.depthAll (r.map PyData.int)) ≤ 1
      have : PyData.depth (.int i) = 0 := rfl
      omega
theorem shp_ints (ns : List Int) : SeqAt.shaped (.list (ns.map PyData.int)) = true := by
  obtain ⟨a, b⟩ := shpI_all ns
  have : decide ((PyData.list (ns.map PyData.int)).depth ≤ 64) = true := decide_eq_true (by show PyData.depthAll (ns.map PyData.int) + 1 ≤ 64; omega)
  show (PyData.canLayAll0 (ns.map PyData.int) && decide ((PyData.list (ns.map PyData.int)).depth ≤ 64)) = true
  rw [a, this]; rfl
theorem nin_ints (x : Int) (ns : List Int) : ninF (.int x) (.list (ns.map PyData.int)) = some (.bool (decide (x ∉ ns))) := by
  have e0 : ninF (.int x) (.list (ns.map PyData.int)) = if SeqAt.shaped (.int x) = true ∧ SeqAt.shaped (.list (ns.map PyData.int)) = true then some (.bool (!((ns.map PyData.int).any fun z => PyData.eqv z (.int x)))) else none := rfl
  rw [e0, if_pos ⟨shp_int x, shp_ints ns⟩]
  congr 2
  rw [List.any_map]
  by_cases h : x ∈ ns
  · rw [decide_eq_false (by simpa using h)]
    simp only [Bool.not_eq_false', List.any_eq_true]
    exact ⟨x, h, by simp⟩
  · rw [decide_eq_true h]
    simp only [Bool.not_eq_true', List.any_eq_false]
    intro y hy
    simp
    exact fun z => h (z ▸ hy)
theorem intsO_map : ∀ ns : List Int, intsO (ns.map PyData.int) = some ns
  | [] => rfl
  | a :: r => by show (intsO (r.map PyData.int)).map _ = _; rw [intsO_map r]; rfl
theorem sortedF_ints (ns : List Int) : sortedF [.list (ns.map PyData.int)] = some (.list ((sortI ns).map PyData.int)) := by
  simp [sortedF, intsO_map]
/-! ### operators of whole numbers, told one by one -/
theorem mulF_of {i j : Int} (h : mulOk i j = true) : mulF (.int i) (.int j) = some (.int (i * j)) := by simp [mulF, h]
theorem modF_of {i j : Int} (h : divOk i j = true) (p : 0 < j) : modF (.int i) (.int j) = some (.int (i % j)) := by simp [h, p]
theorem fdivF_of {i j : Int} (h : divOk i j = true) (p : 0 < j) : fdivF (.int i) (.int j) = some (.int (i / j)) := by simp [h, p]
theorem eqF_int (neg : Bool) (a b : Int) : eqF neg (.int a) (.int b) = some (.bool (if neg then !decide (a = b) else decide (a = b))) := by simp [eqF]
/-! ### while, step by step -/
theorem wh_yes {c : Tx} {b : Sx} {n : Nat} {ρ ρ2 : En} {π π1 π2 : Pot} (h1 : c ρ π = some (true, π1)) (h2 : b ρ π1 = some (ρ2, π2, .nx)) : whGo c b (n + 1) ρ π = whGo c b n ρ2 π2 := by
  show ((c ρ π).bind _) = _
  rw [h1]
  simp only [Option.bind_some, if_true]
  rw [h2]
  rfl
theorem wh_no {c : Tx} {b : Sx} {n : Nat} {ρ : En} {π π1 : Pot} (h1 : c ρ π = some (false, π1)) : whGo c b (n + 1) ρ π = some (ρ, π1, .nx) := by
  show ((c ρ π).bind _) = _
  rw [h1]
  rfl
/-! ### comprehensions over rows of pairs -/
def rowsP (ps : List (Int × Int)) : List D := ps.map fun q => .tuple [.int q.1, .int q.2]
theorem rowsP_length (ps : List (Int × Int)) : (rowsP ps).length = ps.length := by simp [rowsP]
theorem lc_rowsP {tg : Gx} {el : Ex} {ρw : En} {π : Pot} (f : Int × Int → D) : ∀ ps : List (Int × Int), (∀ q ∈ ps, ∃ ρ2, tg (.tuple [.int q.1, .int q.2]) ρw = some ρ2 ∧ el ρ2 π = some (f q, π)) → lcGo tg xYes el ρw (rowsP ps) π = some (ps.map f, π)
  | [], _ => rfl
  | q :: ps, h => by
    obtain ⟨ρ2, e1, e2⟩ := h q List.mem_cons_self
    show lcGo tg xYes el ρw (.tuple [.int q.1, .int q.2] :: rowsP ps) π = _
    unfold lcGo
    rw [e1]
    simp only [Option.bind_some, xYes, if_true]
    rw [e2]
    simp only [Option.bind_some]
    rw [lc_rowsP f ps fun d hd => h d (List.mem_cons_of_mem _ hd)]
    rfl
theorem boolsO_bools (f : Int × Int → Bool) : ∀ ps : List (Int × Int), boolsO (ps.map fun q => .bool (f q)) = some (ps.map f)
  | [] => rfl
  | d :: ds => by
    show (boolsO (ds.map fun d => .bool (f d))).map _ = _
    rw [boolsO_bools f ds]; rfl
theorem intsO_ints (f : Int × Int → Int) : ∀ ps : List (Int × Int), intsO (ps.map fun q => .int (f q)) = some (ps.map f)
  | [] => rfl
  | d :: ds => by
    show (intsO (ds.map fun d => .int (f d))).map _ = _
    rw [intsO_ints f ds]; rfl
end FL

noncomputable section
namespace FL
open PySem PySem.Spec PyProof.Rows L2 EP
variable {K : PySem.W.Frag}
/-! ### t[::-1] of a tuple -/
theorem back_adjust (n : Nat) : Builtin.Slice.sliceAdjust none none (-1) (n : Int) = ((n : Int) - 1, -1) := by
  have : (-1 : Int) < 0 := by decide
  unfold Builtin.Slice.sliceAdjust
  simp [this]
theorem back_places (n : Nat) : Builtin.Slice.slicePlaces ((n : Int) - 1) (-1) (-1) = n := by
  unfold Builtin.Slice.slicePlaces
  rw [if_neg (show ¬ ((-1 : Int) > 0) by decide)]
  by_cases c : (n : Int) - 1 > -1
  · rw [if_pos c]
    rw [show -(-1 : Int) = 1 by decide, Int.ediv_one]; omega
  · rw [if_neg c]; omega
theorem fm_map {α β : Type} (f : α → Option β) (g : α → β) : ∀ l : List α, (∀ a ∈ l, f a = some (g a)) → l.filterMap f = l.map g
  | [], _ => rfl
  | a :: r, h => by
    rw [List.filterMap_cons, h a List.mem_cons_self, List.map_cons, ← fm_map f g r fun b hb => h b (List.mem_cons_of_mem _ hb)]
theorem back_pick (xs : List Value) : (List.range xs.length).filterMap (fun (k : Nat) => xs.toArray[(((xs.length : Nat) : Int) - 1 + (k : Int) * (-1)).toNat]?) = xs.reverse := by
  have h : ∀ k, k < xs.length → (fun (k : Nat) => xs.toArray[(((xs.length : Nat) : Int) - 1 + (k : Int) * (-1)).toNat]?) k = some (xs.reverse.getD k .none) := fun k hk => by
    show xs.toArray[(((xs.length : Nat) : Int) - 1 + (k : Int) * (-1)).toNat]? = _
    rw [show ((((xs.length : Nat) : Int) - 1 + (k : Int) * (-1)).toNat) = xs.length - 1 - k by omega]
    rw [List.getElem?_toArray, List.getD_eq_getElem?_getD, List.getElem?_reverse hk]
    rw [List.getElem?_eq_getElem (show xs.length - 1 - k < xs.length by omega)]
    rfl
  have e : (List.range xs.length).filterMap (fun (k : Nat) => xs.toArray[(((xs.length : Nat) : Int) - 1 + (k : Int) * (-1)).toNat]?) = (List.range xs.length).map (fun k => xs.reverse.getD k .none) := by
    exact fm_map _ _ _ fun k hk => h k (List.mem_range.mp hk)
  rw [e]
  refine List.ext_getElem (by simp) fun i h1 h2 => ?_
  rw [List.getElem_map, List.getElem_range, List.getD_eq_getElem?_getD, List.getElem?_eq_getElem h2]
  rfl
theorem back_item {prog : Program} {w : World} {A : Around} {E : Value → Shared → Prop} {s : Shared} {t sl : Addr} {its : List Value} {u : Tok} {Q : Value → Shared → Prop} (ht : IsTup s.heap t its.toArray) (hs : s.heap.IsSliceOf sl .none .none (.int (-1) u)) (hz : its.length ≤ sizeLine)
    (h : Q (.ref s.heap.objs.size) { s with heap := s.heap.push { cls := .type "tuple", data := .seq its.reverse.toArray } }) : wpAny (model prog w) A (getItem (.ref t) (.ref sl)) Q E s := by
  have ok : sizeOk (.seq its.reverse.toArray) := by
    show its.reverse.toArray.size ≤ sizeLine
    simpa using hz
  obtain ⟨ob, e1, e2, e3⟩ := id hs
  have isS : s.TypeIs (.ref sl) "slice" := ⟨ob, e1, e2⟩
  unfold getItem
  try with_reducible refine wpAny_holding ?_
  first | refine wpAny_bind (wpAny_pure ?_) | skip
  refine wpAny_bind (wpAny_sequenceKey ht.typeIs (by decide) ?_)
  refine wpAny_bind (wpAny_callSpecial?_slot (name := Str.ofString "__getitem__") ht.typeIs PyProof.Rows.slot_tuple_getitem (wpAny_call_entry PyProof.Rows.slot_tuple_getitem ht.typeIs entry_tuple_getitem ?_ (args_tuple_getitem _ _)))
  show wpAny _ _ (Builtin.Tuple.tupleItemsOf (.ref t) >>= _) _ _ s
  refine wpAny_bind (tupleItemsOf_ ht ?_)
  refine wpAny_bind (wpAny_typeOf isS ?_)
  rw [if_pos (by decide)]
  have ap : ∀ {R : Int × Int × Nat → Shared → Prop} {A2 : Around} {E2 : Value → Shared → Prop}, R (((its.length : Nat) : Int) - 1, -1, its.length) s → wpAny (model prog w) A2 (Builtin.Slice.sliceApplied (.ref sl) (pure ((its.toArray.size : Nat) : Int))) R E2 s := by
    intro R A2 E2 hr
    unfold Builtin.Slice.sliceApplied Builtin.Slice.sliceFields
    refine wpAny_bind (wpAny_bind (wpAny_field e1 e3 (x := .none) rfl (wpAny_bind (wpAny_field e1 e3 (x := .none) rfl (wpAny_bind (wpAny_field e1 e3 (x := .int (-1) u) rfl (wpAny_pure ?_)))))))
    refine wpAny_bind (slicePart_int ?_)
    show wpAny _ _ (if ((-1 : Int) == 0) = true then _ else _) _ _ s
    rw [if_neg (by decide)]
    refine wpAny_bind (slicePart_none (wpAny_bind (slicePart_none (wpAny_bind (wpAny_pure ?_)))))
    rw [show its.toArray.size = its.length by simp]
    show wpAny _ _ (match Builtin.Slice.sliceAdjust none none (-1) ((its.length : Nat) : Int) with | (lo, hi) => pure (lo, (-1 : Int), Builtin.Slice.slicePlaces lo hi (-1))) _ _ s
    rw [back_adjust]
    show wpAny _ _ (pure (((its.length : Nat) : Int) - 1, (-1 : Int), Builtin.Slice.slicePlaces (((its.length : Nat) : Int) - 1) (-1) (-1))) _ _ s
    rw [back_places]
    exact wpAny_pure hr
  refine wpAny_bind (ap ?_)
  have no : ¬ ((((its.length : Nat) : Int) - 1 == 0 && (-1 : Int) == 1 && its.length == its.toArray.size) = true) := by
    intro q
    rw [Bool.and_eq_true, Bool.and_eq_true] at q
    exact absurd (eq_of_beq q.1.2) (by decide)
  show wpAny _ _ (if (((its.length : Nat) : Int) - 1 == 0 && (-1 : Int) == 1 && its.length == its.toArray.size) = true then _ else _) _ _ s
  rw [if_neg no, back_pick]
  first
    | exact wpAny_bind (m := Builtin.Tuple.tupleExact _) (wpAny_newObj_type (wpAny_pure ⟨_, rfl, wpAny_pure h⟩) ok)
    | exact wpAny_bind (m := Builtin.Tuple.tupleExact _) (wpAny_newObj_type (wpAny_bind (wpAny_pure (wpAny_pure ⟨_, rfl, wpAny_pure h⟩))) ok)
    | exact wpAny_bind (wpAny_bind (m := Builtin.Tuple.tupleExact _) (wpAny_newObj_type (wpAny_pure (wpAny_pure ⟨_, rfl, wpAny_pure h⟩)) ok))
    | exact wpAny_bind (wpAny_bind (m := Builtin.Tuple.tupleExact _) (wpAny_newObj_type (wpAny_pure ⟨_, rfl, wpAny_pure h⟩) ok))
def tBkT (K : PySem.W.Frag) (te : TE) (tl th ts : TO) : TE := fun σ H Q => te σ H fun x H1 => tl σ H1 fun lo H2 => th σ H2 fun hi H3 => ts σ H3 fun st H4 => ∃ a xs, x = .ref a ∧ SqT K H4 a xs ∧ lo = none ∧ hi = none ∧ st = some (-1) ∧ ∀ p, H4 p = none → Q (.ref p) (upd H4 p (.tup xs.reverse))
theorem vals_back {xs : List V} {its : List Value} (r : Vals xs its) : Vals xs.reverse its.reverse := by
  have app : ∀ {xs ys : List V} {us vs : List Value}, Vals xs us → Vals ys vs → Vals (xs ++ ys) (us ++ vs) := by
    intro xs ys us vs h1 h2
    induction h1 with
    | nil => exact h2
    | cons a _ ih => exact .cons a ih
  induction r with
  | nil => exact .nil
  | cons a t ih => rw [List.reverse_cons, List.reverse_cons]; exact app ih (.cons a .nil)
theorem pe_bkT {X : Cx} {pos : Pos} {e : Expr} {te : TE} {lo hi : Option Expr} {st : Expr} {tl th ts : TO} {p3 : Pos} (he : PE X e te) (hl : PO X lo tl) (hh : PO X hi th) (hst : PO X (some st) ts)
    (hpl : ∀ o i, subscripted (.Slice lo hi (some st) p3) false o i = operate [o, i] (getItem o i) := by intros; with_unfolding_all rfl) : PE X (.Subscript e (.Slice lo hi (some st) p3) pos) (tBkT X.K te tl th ts) := by
  refine ⟨fun pins s σ H Q I h => ?_⟩
  refine Subscript_ (thn (he.run pins s σ H _ I h) fun v s1 ⟨x, H1, I1, r1, q1⟩ => ?_)
  refine wpAny_Slice (thn (hl.run pins s1 σ H1 _ I1 q1) fun vl s2 ⟨l, H2, I2, pl, q2⟩ => ?_)
  refine thn (hh.run pins s2 σ H2 _ I2 q2) fun vu s3 ⟨u, H3, I3, pu, q3⟩ => ?_
  refine thn (hst.run pins s3 σ H3 _ I3 q3) fun vs s4 ⟨o, H4, I4, ps, q4⟩ => ?_
  obtain ⟨a, xs, ex, hx, rfl, rfl, rfl, q⟩ := q4
  subst ex
  cases r1
  cases pl
  cases pu
  cases ps with
  | int i t =>
    have I5 : Inv X pins σ H4 { s4 with heap := s4.heap.push { cls := .type "slice", data := .fields #[.none, .none, .int (-1) t] } } := I4.kept (t' := s4.toks) fun b ob q => Heap.get?_push_of_some _ q
    obtain ⟨its, r, ht, hz⟩ := I5.tuple hx
    have hlen := r.length
    show wpAny (model X.prog X.w) X.A (subscriptTail e (.Slice lo hi (some st) p3) (.ref a) (.ref s4.heap.objs.size)) (EP X pins σ Q) X.xe { s4 with heap := s4.heap.push { cls := .type "slice", data := .fields #[.none, .none, .int (-1) t] } }
    refine tail_any (ops := [.ref a, .ref s4.heap.objs.size]) ht.typeIs (PySem.F.slot_tuple_getitem.lookup) ?_ (hpl _ _)
    refine back_item ht (Heap.IsSliceOf.new _ .none .none (.int (-1) t)) (by omega) ?_
    exact ⟨.ref _, _, I5.laid (t' := s4.toks) (o := .tup xs.reverse) (fun b ob q => Heap.get?_push_of_some _ q) (Nat.le_refl _) ⟨by rw [List.length_reverse]; exact hz, its.reverse, vals_back r, IsTup.new _ _⟩, rfl, q _ (I5.hok.fresh (Nat.le_refl _))⟩
def bkT (d : D) (lo hi st : Option Int) : Option D := match d, lo, hi, st with
  | .tuple ds, none, none, some (-1) => some (.tuple ds.reverse)
  | _, _, _, _ => none
@[simp] def xBk (a : Ex) (l h s : PxF) : Ex := fun ρ π => (a ρ π).bind fun x => (l ρ x.2).bind fun y => (h ρ y.2).bind fun z => (s ρ z.2).bind fun w => (bkT x.1 y.1 z.1 w.1).map fun d => (d, w.2)
theorem xBk_some {a : Ex} {l h s : PxF} {ρ : En} {π : Pot} {d : D} {π' : Pot} (e : xBk a l h s ρ π = some (d, π')) : ∃ dx π1 lo π2 hi π3 st, a ρ π = some (dx, π1) ∧ l ρ π1 = some (lo, π2) ∧ h ρ π2 = some (hi, π3) ∧ s ρ π3 = some (st, π') ∧ bkT dx lo hi st = some d := by
  unfold xBk at e
  obtain ⟨x, ea, e⟩ := Option.bind_eq_some_iff.mp e
  obtain ⟨y, eb, e⟩ := Option.bind_eq_some_iff.mp e
  obtain ⟨z, ec, e⟩ := Option.bind_eq_some_iff.mp e
  obtain ⟨w, ed, e⟩ := Option.bind_eq_some_iff.mp e
  obtain ⟨u, ef, e⟩ := Option.map_eq_some_iff.mp e
  cases e
  exact ⟨x.1, x.2, y.1, y.2, z.1, z.2, w.1, ea, eb, ec, ed, ef⟩
theorem ef_bk {ta : TE} {tl th ts : TO} {fa : Ex} {fl fh fs : PxF} (ha : BF K ta fa) (hl : PF K tl fl) (hh : PF K th fh) (hs : PF K ts fs) : EF K (tBkT K ta tl th ts) (xBk fa fl fh fs) := by
  refine ⟨fun fr σ H ρ π R d π' e Q q => ?_⟩
  obtain ⟨dx, π1, lo, π2, hi, π3, st, ea, el, eh, es, ed⟩ := xBk_some e
  refine ha.go fr σ H ρ π R dx π1 ea _ fun x H1 R1 c1 bx => ?_
  refine hl.go fr σ H1 ρ π1 R1 lo π2 el _ fun H2 R2 c2 => ?_
  refine hh.go fr σ H2 ρ π2 R2 hi π3 eh _ fun H3 R3 c3 => ?_
  refine hs.go fr σ H3 ρ π3 R3 st π' es _ fun H4 R4 c4 => ?_
  have b := ((bx.chg R1 c2).chg R2 c3).chg R3 c4
  unfold bkT at ed
  split at ed
  · rename_i ds
    cases ed
    obtain ⟨p, xs, rfl, ep, rp⟩ := b.tuple
    refine ⟨p, xs, rfl, ep.sq, rfl, rfl, rfl, fun l hl => ?_⟩
    exact q _ _ (R4.kp (upN hl)) (c1.trans (c2.trans (c3.trans (c4.trans (.of (upN hl)))))) (dvTup R4.sA hl rp.reverse)
  · cases ed
/-! ### a dict of the module's own, texts as keys, that nothing changes -/
def rKin (K : PySem.W.Frag) (d : Addr) : R2 := fun x y H Q => ∃ (z : Str) (r : Option Value), x = .str z ∧ y = .ref d ∧ PySem.W.nsIn K d z = some r ∧ Q (.bl r.isSome) H
def rKit (K : PySem.W.Frag) (d : Addr) : R2 := fun x y H Q => ∃ (z : Str) (u0 : Value) (v0 : V), x = .ref d ∧ y = .str z ∧ PySem.W.nsIn K d z = some (some u0) ∧ RelV v0 u0 ∧ Q v0 H
/-- what the dict tells of a text -/
def KdV (K : PySem.W.Frag) (d : Addr) (z : Str) : Option D → Prop
  | none => PySem.W.nsIn K d z = some none
  | some dd => ∃ (u : Value) (v : V), PySem.W.nsIn K d z = some (some u) ∧ RelV v u ∧ ∀ H S, Dv K H S v dd
def KdT (K : PySem.W.Frag) (d : Addr) : List (Str × Option D) → Prop
  | [] => True
  | (z, r) :: t => KdV K d z r ∧ KdT K d t
def kdAt : List (Str × Option D) → Str → Option (Option D)
  | [], _ => none
  | (z, r) :: t, x => if x = z then some r else kdAt t x
theorem kdAt_ok {d : Addr} : ∀ {t : List (Str × Option D)} {x : Str} {r : Option D}, KdT K d t → kdAt t x = some r → KdV K d x r
  | [], _, _, _, h => by cases h
  | (z, r) :: t, x, r', T, h => by
    unfold kdAt at h
    split at h
    · rename_i c
      cases h
      rw [c]; exact T.1
    · exact kdAt_ok T.2 h
def kdIn (t : List (Str × Option D)) (x : D) : Option D := match x with
  | .str z => (kdAt t z).map fun r => .bool r.isSome
  | _ => none
def kdIt (t : List (Str × Option D)) (x : D) : Option D := match x with
  | .str z => (kdAt t z).bind fun r => r
  | _ => none
@[simp] def xKd (F : D → Option D) (f : Ex) : Ex := fun ρ π => (f ρ π).bind fun x => (F x.1).map fun y => (y, x.2)
theorem ef_kin {d : Addr} {t : List (Str × Option D)} (T : KdT K d t) {te : TE} {f : Ex} (h : BF K te f) : EF K (tOp (rKin K d) te (tC (.ref d))) (xKd (kdIn t) f) := by
  refine ⟨fun fr σ H ρ π R dd π' e Q q => ?_⟩
  unfold xKd at e
  obtain ⟨x, ea, e⟩ := Option.bind_eq_some_iff.mp e
  obtain ⟨y, eb, e⟩ := Option.map_eq_some_iff.mp e
  cases e
  refine h.go fr σ H ρ π R x.1 x.2 ea _ fun v H1 R1 c1 b => ?_
  unfold kdIn at eb
  split at eb
  · rename_i z hz
    rw [hz] at b
    obtain rfl := b.str
    obtain ⟨r, ec, rfl⟩ := Option.map_eq_some_iff.mp eb
    have k := kdAt_ok T ec
    cases r with
    | none => exact ⟨z, none, rfl, rfl, k, q _ H1 R1 c1 (.bl _)⟩
    | some dd =>
      obtain ⟨u, v, k1, k2, k3⟩ := k
      exact ⟨z, some u, rfl, rfl, k1, q _ H1 R1 c1 (.bl _)⟩
  · cases eb
theorem ef_kit {d : Addr} {t : List (Str × Option D)} (T : KdT K d t) {te : TE} {f : Ex} (h : BF K te f) : EF K (tOp (rKit K d) (tC (.ref d)) te) (xKd (kdIt t) f) := by
  refine ⟨fun fr σ H ρ π R dd π' e Q q => ?_⟩
  unfold xKd at e
  obtain ⟨x, ea, e⟩ := Option.bind_eq_some_iff.mp e
  obtain ⟨y, eb, e⟩ := Option.map_eq_some_iff.mp e
  cases e
  refine h.go fr σ H ρ π R x.1 x.2 ea _ fun v H1 R1 c1 b => ?_
  unfold kdIt at eb
  split at eb
  · rename_i z hz
    rw [hz] at b
    obtain rfl := b.str
    obtain ⟨r, ec, er⟩ := Option.bind_eq_some_iff.mp eb
    have k := kdAt_ok T ec
    cases r with
    | none => cases er
    | some dd =>
      cases er
      obtain ⟨u, v, k1, k2, k3⟩ := k
      exact ⟨z, u, v, rfl, rfl, k1, k2, q _ H1 R1 c1 (k3 _ _)⟩
  · cases eb
theorem ix_kd {X : Cx} {d : Addr} {es : Array DictEntry} {n : Nat} (D : KDict X.K X.w d es n) : IxR X (rKit X.K d) := by
  intro a b pins s σ H x y v u Q I rx ry h hs
  obtain ⟨z, u0, v0, rfl, rfl, hn, hv, q⟩ := h
  cases rx
  obtain ⟨t, rfl⟩ := ry
  exact tail_any (ops := [.ref d, .str z t]) (kd_type D I) PySem.F.slot_dict_getitem.lookup (op_item_kd D pins s σ H (.ref d) (.str z) _ _ Q I rfl ⟨t, rfl⟩ ⟨z, u0, v0, rfl, rfl, hn, hv, q⟩) hs
/-- a tuple of the module's own -/
theorem dv_kept {a : Addr} {cl : Value} {dd : Option Addr} {its : Array Value} {n : Nat} {sl : Array (Option Value)} {xs : List V} {ds : List D} (lk : K.lookup a = some { cls := cl, dict := dd, data := .seq its n, slots := sl }) (hc : cl = .type "tuple") (hz : its.size ≤ sizeLine) (r : Vals xs its.toList) (h : ∀ H S, DvA K H S xs ds) : ∀ H S, Dv K H S (.ref a) (.tuple ds) := fun H S =>
  .tup (.inr (.inr ⟨_, its, n, lk, hc, rfl, hz, r⟩)) (h H S)
end FL

noncomputable section
namespace FL
open PySem PySem.Spec PyProof.Rows L2 EP
variable {K : PySem.W.Frag}
/-! ### right(pot(script, k)): a pot of its own for each k -/
def potL : D → Option Pot
  | .list ds => intsO ds
  | _ => none
def xLaw (i j : Nat) (FP : List Int → D → Option D) (FR : Pot → List D → Option (D × Pot)) : Ex := fun ρ π => match ρ[i]?, ρ[j]? with
  | some (.scr ns), some (.dat (.int k)) => (FP ns (.int k)).bind fun r => (potL r).bind fun p => (FR p []).bind fun x => (isB x.1).map fun b => (.bool b, π)
  | _, _ => none
theorem ef_lawR {i j : Nat} {FP : List Int → D → Option D} {FR : Pot → List D → Option (D × Pot)} {E1 E2 : XK} : EF K (tCall (SpP K false [] FR) [] E2 (tCons (tCall (SpS K FP) [] E1 (tCons (tVar i) (tCons (tVar j) tNil))) tNil)) (xLaw i j FP FR) := by
  refine ⟨fun fr σ H ρ π R d π' e Q q => ?_⟩
  unfold xLaw at e
  split at e
  · rename_i ns k hi hj
    obtain ⟨r, e1, e⟩ := Option.bind_eq_some_iff.mp e
    obtain ⟨p, e2, e⟩ := Option.bind_eq_some_iff.mp e
    obtain ⟨x, e3, e⟩ := Option.bind_eq_some_iff.mp e
    obtain ⟨b, e4, e⟩ := Option.map_eq_some_iff.mp e
    cases e
    obtain ⟨a, ev, eq, nu⟩ := R.slot i _ hi
    obtain ⟨v, ew, dv⟩ := R.slot j _ hj
    have vk : v = .int k := by cases dv; rfl
    subst vk
    refine ⟨_, ev, _, ew, ?_⟩
    refine ⟨a, ns, k, r, rfl, eq, e1, fun v H1 kp dn => ?_⟩
    obtain ⟨l, xs, ds, rfl, rfl, nl, el, _, dd⟩ := dn
    have e2 : intsO ds = some p := e2
    rw [ints_some e2] at dd
    obtain rfl := dvInts dd
    obtain ⟨d2, π2⟩ := x
    have hb := isB_some e4
    simp only at hb
    subst hb
    refine ⟨fun z => z = l, l, [], p, [], _, π2, rfl, (fun z hz => by rw [hz, el]; intro y; cases y), rfl, el, trivial, e3, fun w H2 bt _ dw => ?_⟩
    rw [if_neg (by decide)] at dw
    cases dw
    have k2 : Kp H H2 := fun z o hz => bt z o (fun c => by rw [c, nl] at hz; cases hz) (kp z o hz)
    exact q _ H2 (R.kp k2) (.of k2) (.bl _)
  · cases e
/-- a law that looks at the script alone -/
def runL (n : Nat) (b : Sx) : List Int → Option D := fun ns => (outOf (b (.scr ns :: List.replicate n .un) [])).map (·.1)
theorem SF.spL {N : List Str} {n : Nat} {t : TS} {b : Sx} (h : SF K false t b) (hn : N.length = n + 1) {a : Addr} {ns : List Int} {H : Hp} {Q : VK}
    (hq : SqL K H a (ns.map V.int)) (e : runL n b ns = some (.bool true)) (q : ∀ H', Q (.bl true) H') (z : ∀ ρ π ρ' π', b ρ π = some (ρ', π', .nx) → False) : t { nx := fun _ H' => Q .non H', rt := Q } (start N [.ref a]) H := by
  unfold runL at e
  cases eo : outOf (b (.scr ns :: List.replicate n .un) []) with
  | none => rw [eo] at e; cases e
  | some x =>
    rw [eo] at e
    have e1 : x.1 = .bool true := by simpa using e
    obtain ⟨d1, π1⟩ := x
    simp only at e1
    subst e1
    have unO : ∀ {i : Nat} {s : Slot}, (List.replicate n Slot.un)[i]? = some s → s = .un := fun {i s} h2 => by
      obtain ⟨_, e⟩ := List.getElem?_eq_some_iff.mp h2
      simp at e
      exact e.symm
    have slots : ∀ {i : Nat} {s : Slot}, (Slot.scr ns :: List.replicate n Slot.un)[i]? = some s → s.isOwn = false := fun {i s} e => by
      match i with
      | 0 => cases e; rfl
      | i + 1 => rw [unO e]; rfl
    have noOwn : ∀ b, ¬ IsOwn (L2.start N [.ref a]) (.scr ns :: List.replicate n .un) b := by
      rintro b ⟨i, s, e1, e2, _⟩
      rw [slots e1] at e2; cases e2
    have R : Rel K ⟨fun _ => False, none⟩ (L2.start N [.ref a]) H (.scr ns :: List.replicate n .un) [] := by
      refine ⟨by rw [start_len (by simp; omega)]; simp [hn], fun i s e => ?_, fun i j s t b e1 e2 o1 => (by rw [slots e1] at o1; cases o1), fun b y => y.elim, fun b y => (by cases y), fun b y => (noOwn b y).elim⟩
      match i with
      | 0 => cases e; exact ⟨a, rfl, hq, fun z => z.elim (fun z => by cases z) (noOwn a)⟩
      | i + 1 => rw [unO e]; trivial
    rcases outOf_some eo with ⟨ρ', e2⟩ | ⟨ρ', e2, e3⟩
    · refine h.go ⟨fun _ => False, none⟩ _ H _ [] R ρ' π1 _ e2 _ fun v σ' H' R' s' rv => ?_
      unfold RV at rv
      rw [if_neg (by decide)] at rv
      cases rv
      exact q H'
    · exact (z _ _ _ _ e2).elim
end FL

noncomputable section
namespace FL
open PySem PySem.Spec PyProof.Rows L2 EP
variable {K : PySem.W.Frag}
theorem un1of {n : Nat} (h : n + 66 < cLine) : n + 1 < cLine := by omega
/-! ### dicts of a def's own: whole numbers and texts as keys -/
def valG {α : Type} (kvs : List (Key × α)) (k : Key) : Option α := (kvs.find? fun kv => decide (kv.1 = k)).map (·.2)
def putG {α : Type} (kvs : List (Key × α)) (k : Key) (v : α) : List (Key × α) :=
  if (kvs.any fun kv => decide (kv.1 = k)) = true then kvs.map (fun kv => if kv.1 = k then (kv.1, v) else kv) else kvs ++ [(k, v)]
def keyD : D → Option Key
  | .int i => some (.inl i)
  | .str s => some (.inr s)
  | _ => none
theorem keyD_some {fr : Fm} {H : Hp} {S : Addr → Prop} {v : V} {d : D} {k : Key} (h : keyD d = some k) (b : Db K fr H S v d) : v = kV k := by
  unfold keyD at h
  split at h
  · cases h; exact b.int
  · cases h; exact b.str
  · cases h
theorem val_rel {H : Hp} {S : Addr → Prop} {k : Key} : ∀ {ks : List (Key × V)} {kvs : List (Key × D)}, ks.map (·.1) = kvs.map (·.1) → DvA K H S (ks.map (·.2)) (kvs.map (·.2)) → (L2.valV ks k = none ∧ valG kvs k = none) ∨ ∃ v d, L2.valV ks k = some v ∧ valG kvs k = some d ∧ Dv K H S v d
  | [], [], _, _ => .inl ⟨rfl, rfl⟩
  | [], _ :: _, m, _ => by cases m
  | _ :: _, [], m, _ => by cases m
  | a :: ks, b :: kvs, m, dv => by
    have m1 : a.1 = b.1 ∧ ks.map (·.1) = kvs.map (·.1) := by simpa using m
    cases dv with
    | cons h1 h2 =>
      unfold L2.valV valG
      by_cases c : b.1 = k
      · right
        refine ⟨a.2, b.2, ?_, ?_, h1⟩
        · rw [List.find?_cons_of_pos (by simp [m1.1, c])]; rfl
        · rw [List.find?_cons_of_pos (by simp [c])]; rfl
      · rw [List.find?_cons_of_neg (by simp [m1.1, c]), List.find?_cons_of_neg (by simp [c])]
        exact val_rel (k := k) m1.2 h2
theorem put_any {ks : List (Key × V)} {kvs : List (Key × D)} {k : Key} (m : ks.map (·.1) = kvs.map (·.1)) : (ks.any fun kv => decide (kv.1 = k)) = (kvs.any fun kv => decide (kv.1 = k)) := by
  have e1 : (ks.any fun kv => decide (kv.1 = k)) = (ks.map (·.1)).any fun x => decide (x = k) := by rw [List.any_map]; rfl
  have e2 : (kvs.any fun kv => decide (kv.1 = k)) = (kvs.map (·.1)).any fun x => decide (x = k) := by rw [List.any_map]; rfl
  rw [e1, e2, m]
theorem put_map {H : Hp} {S : Addr → Prop} {k : Key} {v : V} {d : D} (h : Dv K H S v d) : ∀ {ks : List (Key × V)} {kvs : List (Key × D)}, ks.map (·.1) = kvs.map (·.1) → DvA K H S (ks.map (·.2)) (kvs.map (·.2)) →
    (ks.map (fun kv => if kv.1 = k then (kv.1, v) else kv)).map (·.1) = (kvs.map (fun kv => if kv.1 = k then (kv.1, d) else kv)).map (·.1) ∧ DvA K H S ((ks.map (fun kv => if kv.1 = k then (kv.1, v) else kv)).map (·.2)) ((kvs.map (fun kv => if kv.1 = k then (kv.1, d) else kv)).map (·.2))
  | [], [], _, _ => ⟨rfl, .nil⟩
  | [], _ :: _, m, _ => by cases m
  | _ :: _, [], m, _ => by cases m
  | a :: ks, b :: kvs, m, dv => by
    have m1 : a.1 = b.1 ∧ ks.map (·.1) = kvs.map (·.1) := by simpa using m
    cases dv with
    | cons h1 h2 =>
      obtain ⟨i1, i2⟩ := put_map h m1.2 h2
      by_cases c : b.1 = k
      · have c' : a.1 = k := m1.1.trans c
        simp only [List.map_cons, if_pos c, if_pos c']
        exact ⟨by rw [i1, m1.1], .cons h i2⟩
      · have c' : ¬ a.1 = k := fun z => c (m1.1.symm.trans z)
        simp only [List.map_cons, if_neg c, if_neg c']
        exact ⟨by rw [i1, m1.1], .cons h1 i2⟩
theorem put_rel {H : Hp} {S : Addr → Prop} {k : Key} {v : V} {d : D} (h : Dv K H S v d) {ks : List (Key × V)} {kvs : List (Key × D)} (m : ks.map (·.1) = kvs.map (·.1)) (dv : DvA K H S (ks.map (·.2)) (kvs.map (·.2))) :
    (L2.putK ks k v).map (·.1) = (putG kvs k d).map (·.1) ∧ DvA K H S ((L2.putK ks k v).map (·.2)) ((putG kvs k d).map (·.2)) := by
  unfold L2.putK putG
  rw [put_any m]
  split
  · exact put_map h m dv
  · refine ⟨by simp [m], ?_⟩
    rw [List.map_append, List.map_append]
    exact dv.append (.cons h .nil)
/-- d[k] -/
@[simp] def xDG (i : Nat) (f : Ex) : Ex := fun ρ π => match ρ[i]? with
  | some (.dct kvs) => (f ρ π).bind fun y => (keyD y.1).bind fun k => (valG kvs k).map fun d => (d, y.2)
  | _ => none
theorem ef_dget {i : Nat} {ty : TE} {f : Ex} (hf : BF K ty f) : EF K (tDGet (tVar i) ty) (xDG i f) := by
  refine ⟨fun fr σ H ρ π R d π' e Q q => ?_⟩
  unfold xDG at e
  split at e
  · rename_i kvs hs
    obtain ⟨y, e1, e⟩ := Option.bind_eq_some_iff.mp e
    obtain ⟨k, e2, e⟩ := Option.bind_eq_some_iff.mp e
    obtain ⟨dd, e3, e⟩ := Option.map_eq_some_iff.mp e
    cases e
    obtain ⟨a, ks, ev, ea, m, dv⟩ := R.slot i _ hs
    refine ⟨_, ev, ?_⟩
    refine hf.go fr σ H ρ π R y.1 y.2 e1 _ fun yv H1 R1 c1 b => ?_
    obtain ⟨a', ks', ev', ea', m', dv'⟩ := R1.slot i _ hs
    rw [ev] at ev'
    cases ev'
    obtain rfl := keyD_some e2 b
    rcases val_rel (k := k) m' dv' with ⟨_, z⟩ | ⟨v, d2, z1, z2, z3⟩
    · rw [z] at e3; cases e3
    · rw [z2] at e3
      cases e3
      have g := DGet.k (k := k) ea'
      rw [z1] at g
      exact ⟨a, v, rfl, g, q _ H1 R1 c1 z3⟩
  · cases e
/-- d.get(k, x) -/
@[simp] def xDG2 (i : Nat) (f g : Ex) : Ex := fun ρ π => match ρ[i]? with
  | some (.dct kvs) => (f ρ π).bind fun y => (keyD y.1).bind fun k => (g ρ y.2).map fun z => ((valG kvs k).getD z.1, z.2)
  | _ => none
theorem ef_dget2 {i : Nat} {ty tx : TE} {f g : Ex} (hf : BF K ty f) (hg : EF K tx g) : EF K (tDGet2 (tVar i) ty tx) (xDG2 i f g) := by
  refine ⟨fun fr σ H ρ π R d π' e Q q => ?_⟩
  unfold xDG2 at e
  split at e
  · rename_i kvs hs
    obtain ⟨y, e1, e⟩ := Option.bind_eq_some_iff.mp e
    obtain ⟨k, e2, e⟩ := Option.bind_eq_some_iff.mp e
    obtain ⟨z, e3, e⟩ := Option.map_eq_some_iff.mp e
    cases e
    obtain ⟨a, ks, ev, ea, m, dv⟩ := R.slot i _ hs
    refine ⟨_, ev, a, rfl, .inl ⟨ks, .inl ea⟩, ?_⟩
    refine hf.go fr σ H ρ π R y.1 y.2 e1 _ fun yv H1 R1 c1 b => ?_
    obtain rfl := keyD_some e2 b
    refine hg.go fr σ H1 ρ y.2 R1 z.1 z.2 e3 _ fun zv H2 R2 c2 bz => ?_
    obtain ⟨a', ks', ev', ea', m', dv'⟩ := R2.slot i _ hs
    rw [ev] at ev'
    cases ev'
    refine ⟨_, DGet.k (k := k) ea', ?_⟩
    rcases val_rel (k := k) m' dv' with ⟨z1, z2⟩ | ⟨v, d2, z1, z2, z3⟩
    · rw [z1]
      refine q _ H2 R2 (c1.trans c2) ?_
      rw [z2]; exact bz
    · rw [z1]
      refine q _ H2 R2 (c1.trans c2) ?_
      rw [z2]; exact z3
  · cases e
/-- d[k] = e -/
@[simp] def sDP (i : Nat) (f g : Ex) : Sx := fun ρ π => (f ρ π).bind fun y => (g ρ y.2).bind fun z => match ρ[i]? with
  | some (.dct kvs) => (keyD z.1).bind fun k => if kvs.length < 100000 then some (ρ.set i (.dct (putG kvs k y.1)), z.2, .nx) else none
  | _ => none
theorem sf_dput {nw : Bool} {i : Nat} {te ti : TE} {f g : Ex} (h : EF K te f) (hg : BF K ti g) : SF K nw (sDPut (tVar i) ti te) (sDP i f g) := by
  refine ⟨fun fr σ H ρ π R ρ' π' o e D q => ?_⟩
  unfold sDP at e
  obtain ⟨y, e1, e⟩ := Option.bind_eq_some_iff.mp e
  obtain ⟨z, e2, e⟩ := Option.bind_eq_some_iff.mp e
  split at e
  · rename_i kvs hs
    obtain ⟨k, e3, e⟩ := Option.bind_eq_some_iff.mp e
    split at e
    · rename_i ln
      cases e
      refine h.go fr σ H ρ π R y.1 y.2 e1 _ fun v H1 R1 c1 b => ?_
      obtain ⟨a, ks, ev, ea, m, dv⟩ := R1.slot i _ hs
      refine ⟨_, ev, ?_⟩
      refine hg.go fr σ H1 ρ y.2 R1 z.1 z.2 e2 _ fun kv H2 R2 c2 b2 => ?_
      obtain rfl := keyD_some e3 b2
      obtain ⟨a', ks', ev', ea', m', dv'⟩ := R2.slot i _ hs
      rw [ev] at ev'
      cases ev'
      have oa : IsOwn σ ρ a := ⟨i, _, hs, rfl, ev⟩
      have lk : ks'.length = kvs.length := by
        have := congrArg List.length m'
        simpa using this
      refine ⟨a, _, rfl, DPut.k (k := k) ea' (szLt (by rw [lk]; exact ln)), ?_⟩
      have upq : Step ⟨fun b => b = a, (wd fr σ ρ H2).S, H2⟩ ⟨fun b => b = a, (wd fr σ ρ H2).S, upd H2 a (.dK (L2.putK ks' k v))⟩ :=
        ⟨fun b u n z => by show L2.upd H2 a _ b = _; rw [upd_ne n]; exact z, fun b z => .inl z, fun b z => .inl z⟩
      have us2 : ∀ b, b = a → (wd fr σ ρ H2).S b := fun b z => .inr (by rw [z]; exact oa)
      have bv := b.step R1.us (c2.step σ ρ)
      obtain ⟨p1, p2⟩ := put_rel (k := k) bv m' dv'
      obtain ⟨R3, s3⟩ := R2.put (o := .dK (L2.putK ks' k v)) (s' := .dct (putG kvs k y.1)) hs rfl rfl ev ⟨a, _, ev, upd_same, p1, p2.step (A := ⟨fun b => b = a, (wd fr σ ρ H2).S, H2⟩) us2 upq⟩
      exact q σ _ R3 (((c1.trans c2).step σ ρ).trans R.us s3)
    · cases e
  · cases e
theorem Rel.setDct {fr : Fm} {σ : L2.St} {H H' : Hp} {ρ : En} {π π' : Pot} (R : Rel K fr σ H ρ π) (R' : Rel K fr σ H' ρ π') (c : ChgP fr H H') {i : Nat} {p : Addr}
    (h0 : H p = none) (h1 : H' p = some (.dK []))
    (hscr : ∀ (j : Nat) (ns : List Int) (a : Addr), ρ[j]? = some (.scr ns) → σ[j]? = some (some (.ref a)) → a ≠ p) :
    Rel K fr (σ.set i (some (.ref p))) H' (ρ.set i (.dct [])) π' ∧ Step (wd fr σ ρ H) (wd fr (σ.set i (some (.ref p))) (ρ.set i (.dct [])) H') := by
  have ow : ∀ a, IsOwn (σ.set i (some (.ref p))) (ρ.set i (.dct [])) a → IsOwn σ ρ a ∨ a = p := by
    rintro a ⟨j, s, e, o, q⟩
    by_cases z : i = j
    · subst z
      rw [List.getElem?_set_self'] at q
      cases y : σ[i]? with
      | none => rw [y] at q; cases q
      | some w =>
        rw [y] at q
        have q2 : some (V.ref p) = some (V.ref a) := Option.some.inj q
        cases q2
        exact .inr rfl
    · rw [List.getElem?_set_ne z] at e q
      exact .inl ⟨j, s, e, o, q⟩
  have nown : ¬ IsOwn σ ρ p := fun z => R.ownSome z h0
  have st : Step (wd fr σ ρ H) (wd fr (σ.set i (some (.ref p))) (ρ.set i (.dct [])) H') := by
    refine ⟨fun b o n z => c b o (fun y => n (.inl y)) z, fun a z => ?_, fun a z => ?_⟩
    · rcases z with z | z
      · exact .inl (.inl z)
      · rcases ow a z with z | z
        · exact .inl (.inr z)
        · exact .inr (by rw [z]; exact h0)
    · rcases z with z | z
      · exact .inl (.inl z)
      · rcases ow a z with z | z
        · exact .inl (.inr z)
        · exact .inr (by rw [z]; exact h0)
  refine ⟨⟨by simp [R.len], fun j s e => ?_, fun j k s t a e1 e2 o1 o2 q1 q2 => ?_, R'.all, fun a h => ?_, fun a h => ?_⟩, st⟩
  · by_cases z : i = j
    · subst z
      have l : i < ρ.length := by
        have := (List.getElem?_eq_some_iff.mp e).1
        simpa using this
      rw [List.getElem?_set_self l] at e
      cases e
      exact ⟨p, [], by rw [List.getElem?_set_self (by rw [R.len]; exact l)], h1, rfl, .nil⟩
    · rw [List.getElem?_set_ne z] at e ⊢
      have sl := R.slot j s e
      have nu : ∀ a, (wd fr (σ.set i (some (.ref p))) (ρ.set i (.dct [])) H').U a → (wd fr σ ρ H).U a ∨ a = p := fun a z => by
        rcases z with z | z
        · exact .inl (.inl z)
        · exact (ow a z).imp .inr id
      cases s with
      | un => trivial
      | dat d => obtain ⟨v, e, q⟩ := sl; exact ⟨v, e, q.step R.us st⟩
      | arg es =>
        obtain ⟨a, ys, e, q, n, r⟩ := sl
        refine ⟨a, ys, e, st.keep _ _ n q, fun z => ?_, r.step R.us st⟩
        rcases nu a z with z | z
        · exact n z
        · rw [z] at q
          have q : H p = _ := q
          rw [h0] at q; cases q
      | own es =>
        obtain ⟨a, ys, e3, q, r⟩ := sl
        have np : fr.pt ≠ some a := fun z => (R.pt a z).2.1 ⟨j, _, e, rfl, e3⟩
        exact ⟨a, ys, e3, c _ _ np q, r.step R.us st⟩
      | dct kvs =>
        obtain ⟨a, ys, e3, q, m, r⟩ := sl
        have np : fr.pt ≠ some a := fun z => (R.pt a z).2.1 ⟨j, _, e, rfl, e3⟩
        exact ⟨a, ys, e3, c _ _ np q, m, r.step R.us st⟩
      | pot => exact sl
      | scr ns =>
        obtain ⟨a, e3, q, n⟩ := sl
        refine ⟨a, e3, ?_, fun z => ?_⟩
        · rcases q with (q | ⟨u, q⟩) | q
          · exact .inl (.inl (st.keep _ _ n q))
          · exact .inl (.inr ⟨u, st.keep _ _ n q⟩)
          · exact .inr q
        · rcases nu a z with z | z
          · exact n z
          · exact hscr j ns a e e3 z
  · by_cases d1 : i = j
    · by_cases d2 : i = k
      · rw [← d1, ← d2]
      · exfalso
        subst d1
        rw [List.getElem?_set_self'] at q1
        rw [List.getElem?_set_ne d2] at e2 q2
        cases y : σ[i]? with
        | none => rw [y] at q1; cases q1
        | some w =>
          rw [y] at q1
          have q3 : some (V.ref p) = some (V.ref a) := Option.some.inj q1
          cases q3
          exact nown ⟨k, t, e2, o2, q2⟩
    · by_cases d2 : i = k
      · exfalso
        subst d2
        rw [List.getElem?_set_self'] at q2
        rw [List.getElem?_set_ne d1] at e1 q1
        cases y : σ[i]? with
        | none => rw [y] at q2; cases q2
        | some w =>
          rw [y] at q2
          have q3 : some (V.ref p) = some (V.ref a) := Option.some.inj q2
          cases q3
          exact nown ⟨j, s, e1, o1, q1⟩
      · rw [List.getElem?_set_ne d1] at e1 q1
        rw [List.getElem?_set_ne d2] at e2 q2
        exact R.nd j k s t a e1 e2 o1 o2 q1 q2
  · obtain ⟨p1, p2, p3⟩ := R'.pt a h
    refine ⟨p1, fun z => ?_, p3⟩
    rcases ow a z with z | z
    · exact p2 z
    · rw [z] at p1
      exact R.all p p1 h0
  · rcases ow a h with z | z
    · exact R.os a z
    · rw [z]; exact fun y => R.all p y h0
/-- d = {} -/
@[simp] def sDN (i : Nat) : Sx := fun ρ π => if hasScr ρ = true then none else some (ρ.set i (.dct []), π, .nx)
theorem sf_dnew {nw : Bool} {i : Nat} : SF K nw (tAsg tDNewK (gName i)) (sDN i) := by
  refine ⟨fun fr σ H ρ π R ρ' π' o e D q => ?_⟩
  unfold sDN at e
  split at e
  · cases e
  · rename_i hs
    have hs : hasScr ρ = false := by simpa using hs
    cases e
    intro p hp
    have R1 : Rel K fr σ (upd H p (.dK [])) ρ π := R.kp (upN hp)
    obtain ⟨R2, s2⟩ := R.setDct R1 (.of (upN hp)) (i := i) hp upd_same (fun j ns a e1 _ => (noScr hs e1).elim)
    exact q _ _ R2 s2
/-- list(d.items()) -/
def keyV : Key → D
  | .inl i => .int i
  | .inr s => .str s
theorem dv_key {H : Hp} {S : Addr → Prop} (k : Key) : Dv K H S (kV k) (keyV k) := by
  cases k with
  | inl i => exact .int i
  | inr s => exact .str s
def rowsK (kvs : List (Key × D)) : List D := kvs.map fun kv => .tuple [keyV kv.1, kv.2]
@[simp] def xItems (i : Nat) : Ex := fun ρ π => match ρ[i]? with
  | some (.dct kvs) => some (.list (rowsK kvs), π)
  | _ => none
theorem items_rel {H H' : Hp} {S : Addr → Prop} {p : Addr} (kp : ∀ b o, H b = some o → H' b = some o) (al : ∀ a, S a → H a ≠ none) : ∀ {ts : List Addr} {ks : List (Key × V)} {kvs : List (Key × D)}, (∀ t ∈ ts, H t = none) → p ∉ ts → Paired (fun (t : Addr) (q : Key × V) => H' t = some (.tup [kV q.1, q.2])) ts ks →
    ks.map (·.1) = kvs.map (·.1) → DvA K H' (fun a => S a ∨ a = p) (ks.map (·.2)) (kvs.map (·.2)) → DvA K H' (fun a => S a ∨ a = p) (ts.map V.ref) (rowsK kvs)
  | [], [], [], _, _, _, _, _ => .nil
  | [], _ :: _, _, _, _, pr, _, _ => by cases pr
  | _ :: _, [], _, _, _, pr, _, _ => by cases pr
  | _ :: _, _ :: _, [], _, _, _, m, _ => by cases m
  | [], [], _ :: _, _, _, _, m, _ => by cases m
  | t :: ts, qk :: qs, kv :: kvs, nt, np, pr, m, dv => by
    have m1 : qk.1 = kv.1 ∧ qs.map (·.1) = kvs.map (·.1) := by simpa using m
    cases pr with
    | cons h1 h2 =>
      cases dv with
      | cons d1 d2 =>
        refine .cons (.tup (.inl ⟨.inl h1, fun z => ?_⟩) (.cons ?_ (.cons d1 .nil))) (items_rel kp al (fun t ht => nt t (List.mem_cons_of_mem _ ht)) (fun z => np (List.mem_cons_of_mem _ z)) h2 m1.2 d2)
        · rcases z with z | z
          · exact al t z (nt t List.mem_cons_self)
          · exact np (by rw [← z]; exact List.mem_cons_self)
        · rw [m1.1]; exact dv_key _
theorem nf_items {i : Nat} : NF K (LiI.tListItems (tVar i)) (xItems i) := by
  refine ⟨fun fr σ H ρ π R d π' e Q q => ?_⟩
  unfold xItems at e
  split at e
  · rename_i kvs hs
    cases e
    obtain ⟨a, ks, ev, ea, m, dv⟩ := R.slot i _ hs
    refine ⟨_, ev, a, ks, rfl, ea, fun H' p ts kp hp nt np hl pr => ?_⟩
    have k2 : Kp H H' := fun b o h => kp b o h
    have R2 := R.kp k2
    have dv2 : DvA K H' (fun a => (wd fr σ ρ H').S a ∨ a = p) (ks.map (·.2)) (kvs.map (·.2)) :=
      dv.step (A := ⟨fun _ => False, (wd fr σ ρ H).S, H⟩) (B := ⟨fun _ => False, fun a => (wd fr σ ρ H').S a ∨ a = p, H'⟩) (fun a h => h.elim) ⟨fun b o _ h => kp b o h, fun a h => h.elim, fun a h => h.elim .inl (fun z => .inr (by rw [z]; exact hp))⟩
    exact q _ H' R2 (.of k2) ⟨p, ts.map V.ref, rowsK kvs, rfl, rfl, hp, hl, fun z => R.sA p z hp, items_rel kp R.sA nt np pr m dv2⟩
  · cases e
/-- list(d) -/
def rListDK : List V → Hp → VK → Prop := fun xs H Q => ∃ (a : Addr) (kvs : List (Key × V)), xs = [.ref a] ∧ Rd H a (.dK kvs) ∧ ∀ p, H p = none → Q (.ref p) (upd H p (.lst (kvs.map fun kv => kV kv.1)))
theorem cr_listD {X : Cx} (hc : X.calm = true) : CallR X (.type "list") rListDK := call_listD hc
@[simp] def xKeys (i : Nat) : Ex := fun ρ π => match ρ[i]? with
  | some (.dct kvs) => some (.list (kvs.map fun kv => keyV kv.1), π)
  | _ => none
theorem dvA_keys {H : Hp} {S : Addr → Prop} : ∀ {ks : List (Key × V)} {kvs : List (Key × D)}, ks.map (·.1) = kvs.map (·.1) → DvA K H S (ks.map fun kv => kV kv.1) (kvs.map fun kv => keyV kv.1)
  | [], [], _ => .nil
  | [], _ :: _, m => by cases m
  | _ :: _, [], m => by cases m
  | a :: ks, b :: kvs, m => by
    have m1 : a.1 = b.1 ∧ ks.map (·.1) = kvs.map (·.1) := by simpa using m
    refine .cons ?_ (dvA_keys m1.2)
    show Dv K H S (kV a.1) (keyV b.1)
    rw [m1.1]; exact dv_key _
theorem nf_keys {i : Nat} : NF K (tCB rListDK (tCons (tVar i) tNil)) (xKeys i) := by
  refine ⟨fun fr σ H ρ π R d π' e Q q => ?_⟩
  unfold xKeys at e
  split at e
  · rename_i kvs hs
    cases e
    obtain ⟨a, ks, ev, ea, m, dv⟩ := R.slot i _ hs
    refine ⟨_, ev, a, ks, rfl, .inl ea, fun p hp => ?_⟩
    exact q _ _ (R.kp (upN hp)) (.of (upN hp)) (dnNew R.sA hp (dvA_keys m))
  · cases e
end FL

noncomputable section
namespace FL
open PySem PySem.Spec PyProof.Rows L2 EP
variable {K : PySem.W.Frag}
/-! ### reversed(list) -/
theorem itv_ok {a : Addr} {xs : List V} {ds : List D} {n : Nat} (hn : n = ds.length) : ItOk K (Itv K a n) (LPre K a xs ds) ds.reverse := by
  subst hn
  refine ⟨fun A B us h x => h.step us x, fun i A h l => (by rw [List.length_reverse] at l; exact l), fun i d A al h e => ?_⟩
  have li : i < ds.length := by
    have := (List.getElem?_eq_some_iff.mp e).1
    rwa [List.length_reverse] at this
  rw [List.getElem?_reverse li] at e
  obtain ⟨v, ev, dv⟩ := h.2.2.get e
  refine ⟨⟨li, xs, v, sqL h.1, ev⟩, fun x H' y => ?_⟩
  obtain ⟨e1, e2⟩ := y
  subst e1
  have e3 := e2 xs (sqL h.1)
  rw [ev] at e3
  cases e3
  exact ⟨Kp.refl _, dv⟩
@[simp] def iRv (f : Ex) : Ax := fun ρ π => (iL f ρ π).map fun x => (x.1.reverse, x.2)
theorem if_rev {t : TE} {f : Ex} (h : LF K t f) : IF K (iRev K (tCons t tNil)) (iRv f) := by
  refine ⟨fun fr σ H ρ π R ds π' e Q q => ?_⟩
  unfold iRv at e
  obtain ⟨x, e1, e⟩ := Option.map_eq_some_iff.mp e
  cases e
  refine h.go fr σ H ρ π R x.1 x.2 (iL_some e1) _ fun a xs H' R' c p => ?_
  exact ⟨a, xs, rfl, sqL p.1, q _ _ H' R' c (itv_ok (by rw [p.2.2.length])) p⟩
/-- a target's names in another order -/
theorem gf_sub {vs ws : List Nat} {g : TG} {f : Gx} (s : ∀ i, i ∈ vs → i ∈ ws) (h : GF K vs g f) : GF K ws g f :=
  ⟨fun d ρ ρ' e i n => h.ag d ρ ρ' e i fun z => n (s i z), fun fr σ H ρ π R v d dv ρ' e Q q => h.go fr σ H ρ π R v d dv ρ' e Q fun σ' R' st ag ow => q σ' R' st ⟨ag.1, fun i n => ag.2 i fun z => n (s i z)⟩ ow⟩
end FL

noncomputable section
namespace FL
open PySem PySem.Spec PyProof.Rows L2 EP
variable {K : PySem.W.Frag}
/-! ### sorted(..) of whole numbers in a list or a tuple -/
def rSortA (K : PySem.W.Frag) : List V → Hp → VK → Prop := fun vs H Q => ∃ (a : Addr) (ns : List Int), vs = [V.ref a] ∧ (SqL K H a (ns.map V.int) ∨ SqT K H a (ns.map V.int)) ∧
  ∀ (ms : List Int) (p : Addr), ms.Perm ns → ms.Pairwise (· ≤ ·) → H p = none → Q (.ref p) (upd H p (.lst (ms.map V.int)))
theorem sorted_any {prog : Program} {w : World} {A : Around} {E : Value → Shared → Prop} {s : Shared} {a : Addr} {T : String} {o : Obj} {its : List Value} {n : Nat} {ns : List Int} {Q : Value → Shared → Prop}
    (hT : T = "list" ∨ T = "tuple") (ho : s.heap.get? a = some o) (hc : o.cls = .type T) (hd : o.data = .seq its.toArray n) (hi : IntsAre its ns) (hz : its.length ≤ sizeLine)
    (h : ∀ (out : List Value) (ms : List Int) (g h2 : Heap), (∀ b u, s.heap.get? b = some u → g.get? b = some u) → (∀ b u, g.get? b = some u → h2.get? b = some u) → IntsAre out ms → ms.Perm ns → ms.Pairwise (· ≤ ·) → (∃ e, h2.get? g.objs.size = some (seqObj "list" out.toArray e)) → Q (.ref g.objs.size) { s with heap := h2 }) :
    wpAny (model prog w) A (call (.builtin "sorted") [.ref a]) Q E s := by
  refine Calls.call_function_entry kind_sorted plain_sorted entry_sorted (args_sorted1 _) ?_
  unfold Builtin.«sorted»
  refine wpAny_bind (m := checkCount "sorted" 1 1 _) (wpAny_pure ?_)
  refine wpAny_bind (wpAny_collect_seq a hT ho hc hd (fun g kg => ?_) (by simpa using hz))
  refine wpAny_bind (wpAny_newList ?_ (by simpa using hz))
  have at0 : (g.push (seqObj "list" its.toArray 0)).get? g.objs.size = some (seqObj "list" its.toArray 0) := Heap.get?_push_size _ rfl
  show wpAny _ _ _ _ _ { s with heap := g.push (seqObj "list" its.toArray 0) }
  refine wpAny_bind (wpAny_holding (wpAny_call_entry slot_list_sort ⟨_, at0, rfl⟩ entry_list_sort (SrtO.list_sort_ord SrtO.swo_int at0 hz (fun two => SrtO.ints_sortable hi two) fun out hs hb => ⟨_, rfl, ?_⟩) (args_list_sort _)))
  obtain ⟨k1, k2, k3⟩ := SrtO.ints_out hi hs hb
  refine wpAny_pure ⟨_, rfl, ?_⟩
  refine h out _ g _ kg (fun b u q => ?_) k1 k2 k3 (sortedHeap_at at0)
  have lt : b < g.objs.size := Heap.lt_size q
  have q2 : (g.push (seqObj "list" its.toArray 0)).get? b = some u := Heap.get?_push_of_some _ q
  rw [sortedHeap_old (Nat.ne_of_lt lt) (Heap.lt_size q2)]
  exact q2
theorem cr_sortA {X : Cx} : CallR X (.builtin "sorted") (rSortA X.K) := by
  intro pins s σ H vs us Q I r h
  obtain ⟨a, ns, rfl, hs, q⟩ := h
  have main : ∀ (T : String) (o : Obj) (its : List Value) (n : Nat), (T = "list" ∨ T = "tuple") → s.heap.get? a = some o → o.cls = .type T → o.data = .seq its.toArray n → Vals (ns.map V.int) its → (ns.map V.int).length ≤ sizeLine → wpAny (model X.prog X.w) X.A (call (.builtin "sorted") us) (EP X pins σ Q) X.xe s := by
    intro T o its n hT ho hc hd rv hz
    rw [Vals.ref1 r]
    refine sorted_any hT ho hc hd rv.ints (by rw [← rv.length]; exact hz) fun out ms g h2 kg kh k1 k2 k3 he => ?_
    obtain ⟨e, he⟩ := he
    have hlen : (ms.map V.int).length ≤ sizeLine := by
      rw [List.length_map, k2.length_eq]
      rw [List.length_map] at hz
      exact hz
    have I1 : Inv X pins σ H { s with heap := g } := I.kept (t' := s.toks) kg
    exact ⟨.ref _, upd H g.objs.size (.lst (ms.map V.int)), I1.laid (t' := s.toks) kh (Nat.le_refl _) (show ObjOk X.prog X.w _ h2 _ (.lst (ms.map V.int)) from ⟨hlen, out, e, vals_of_ints k1, he⟩), rfl, q ms _ k2 k3 (I1.hok.fresh (Nat.le_refl _))⟩
  rcases hs with hs | hs
  · obtain ⟨its, rv, pl, hz⟩ := I.list hs
    obtain ⟨o, ho, hc, n, hd⟩ := pl.isList
    exact main "list" o its n (.inl rfl) ho hc hd rv hz
  · obtain ⟨its, rv, pl, hz⟩ := I.tuple hs
    obtain ⟨o, ho, hc, n, hd⟩ := pl
    exact main "tuple" o its n (.inr rfl) ho hc hd rv hz
def sortAF : F1 := fun ds => match ds with
  | [.list a] => (intsO a).map fun ns => .list ((sortI ns).map PyData.int)
  | [.tuple a] => (intsO a).map fun ns => .list ((sortI ns).map PyData.int)
  | _ => none
theorem cn_sortA : CN K (rSortA K) sortAF := ⟨fun fr H S al vs ds hx d e Q q => by
  have fin : ∀ (a : List D) (ns : List Int), intsO a = some ns → d = .list ((sortI ns).map PyData.int) → ∀ p, vs = [.ref p] → (SqL K H p (ns.map V.int) ∨ SqT K H p (ns.map V.int)) → rSortA K vs H Q := by
    intro a ns ei ed p ev hs
    subst ev ed
    refine ⟨p, ns, rfl, hs, fun ms l pm so hl => ?_⟩
    obtain ⟨p2, s2⟩ := sortI_spec ns
    have e3 : ms = sortI ns := perm_sorted_uniq (pm.trans p2.symm) so s2
    rw [e3]
    exact q _ _ (upN hl) (dnNew al hl (intsDv _))
  unfold sortAF at e
  split at e
  · rename_i a
    cases ei : intsO a with
    | none => rw [ei] at e; cases e
    | some ns =>
      rw [ei] at e
      cases e
      obtain ⟨v, rfl, h⟩ := dbA1 hx
      obtain ⟨p, xs, rfl, ep, rp⟩ := h.list
      rw [ints_some ei] at rp
      obtain rfl := dvInts rp
      exact fin a ns ei rfl p rfl (.inl (sqL ep))
  · rename_i a
    cases ei : intsO a with
    | none => rw [ei] at e; cases e
    | some ns =>
      rw [ei] at e
      cases e
      obtain ⟨v, rfl, h⟩ := dbA1 hx
      obtain ⟨p, xs, rfl, ep, rp⟩ := h.tuple
      rw [ints_some ei] at rp
      obtain rfl := dvInts rp
      exact fin a ns ei rfl p rfl (.inr ep.sq)
  · cases e⟩
theorem sortAF_l (ns : List Int) : sortAF [.list (ns.map PyData.int)] = some (.list ((sortI ns).map PyData.int)) := by
  simp [sortAF, intsO_map]
theorem sortAF_t (ns : List Int) : sortAF [.tuple (ns.map PyData.int)] = some (.list ((sortI ns).map PyData.int)) := by
  simp [sortAF, intsO_map]
/-! ### t.count(k), xs.count(k) of whole numbers -/
def rCntT (K : PySem.W.Frag) : V → List V → Hp → VK → Prop := fun x xs H Q => ∃ (p : Addr) (ns : List Int) (k : Int), x = .ref p ∧ xs = [.int k] ∧ SqT K H p (ns.map V.int) ∧ Q (.int (ns.count k : Nat)) H
end FL

noncomputable section
namespace FL
open PySem PySem.Spec PyProof.Rows L2 EP
variable {K : PySem.W.Frag}
/-! least and greatest of a list of whole numbers -/
def leastI : Int → List Int → Int
  | m, [] => m
  | m, n :: r => leastI (if n < m then n else m) r
theorem leastI_spec : ∀ (r : List Int) (m : Int), (leastI m r = m ∨ leastI m r ∈ r) ∧ leastI m r ≤ m ∧ ∀ y ∈ r, leastI m r ≤ y
  | [], m => ⟨.inl rfl, Int.le_refl _, fun y hy => by cases hy⟩
  | n :: r, m => by
    have ih := leastI_spec r (if n < m then n else m)
    obtain ⟨a, b, c⟩ := ih
    have e : leastI m (n :: r) = leastI (if n < m then n else m) r := rfl
    rw [e]
    generalize leastI (if n < m then n else m) r = k at *
    refine ⟨?_, ?_, fun y hy => ?_⟩
    · rcases a with a | a
      · by_cases h : n < m
        · rw [if_pos h] at a; rw [a]; exact .inr List.mem_cons_self
        · rw [if_neg h] at a; exact .inl a
      · exact .inr (List.mem_cons_of_mem _ a)
    · by_cases h : n < m
      · rw [if_pos h] at b; omega
      · rw [if_neg h] at b; omega
    · rcases List.mem_cons.mp hy with rfl | hy
      · by_cases h : y < m
        · rw [if_pos h] at b; exact b
        · rw [if_neg h] at b; omega
      · exact c y hy
def minLF : F1 := fun ds => match ds with
  | [.list a] => (intsO a).bind fun ns => match ns with
    | [] => none
    | n :: r => some (.int (leastI n r))
  | _ => none
theorem cf_minL : CF K (rMin K) minLF := ⟨fun fr H S al vs ds hx d e Q q => by
  unfold minLF at e
  split at e
  · rename_i a
    cases ei : intsO a with
    | none => rw [ei] at e; cases e
    | some ns =>
      rw [ei] at e
      cases ns with
      | nil => cases e
      | cons n r =>
        cases e
        obtain ⟨v, rfl, h⟩ := dbA1 hx
        obtain ⟨p, xs, rfl, ep, rp⟩ := h.list
        rw [ints_some ei] at rp
        obtain rfl := dvInts rp
        obtain ⟨s1, s2, s3⟩ := leastI_spec r n
        refine ⟨p, n :: r, rfl, sqL ep, Nat.succ_pos _, fun m hm hl => ?_⟩
        have e1 : m = leastI n r := by
          have a1 := hl (leastI n r) (by rcases s1 with z | z; · rw [z]; exact List.mem_cons_self
                                         · exact List.mem_cons_of_mem _ z)
          have a2 : leastI n r ≤ m := by
            rcases List.mem_cons.mp hm with z | z
            · rw [z]; exact s2
            · exact s3 m z
          omega
        rw [e1]
        exact q _ H (Kp.refl _) (.int _)
  · cases e⟩
end FL

noncomputable section
namespace FL
open PySem PySem.Spec PyProof.Rows L2 EP
/-! ratios in least terms, as data -/
def rat (i u : Int) : D := .tuple [.int (i / (Nat.gcd i.natAbs u.natAbs : Nat)), .int (u / (Nat.gcd i.natAbs u.natAbs : Nat))]
def rN (i u : Int) : Int := i / (Nat.gcd i.natAbs u.natAbs : Nat)
def rU (i u : Int) : Int := u / (Nat.gcd i.natAbs u.natAbs : Nat)
theorem rat_def (i u : Int) : rat i u = .tuple [.int (rN i u), .int (rU i u)] := rfl
theorem gcd_ne {i u : Int} (h : 0 < u) : 0 < Nat.gcd i.natAbs u.natAbs := Nat.gcd_pos_of_pos_right _ (by omega)
theorem rN_mul {i u : Int} : rN i u * (Nat.gcd i.natAbs u.natAbs : Nat) = i := by
  unfold rN
  exact Int.ediv_mul_cancel (Int.ofNat_dvd_left.mpr (Nat.gcd_dvd_left _ _))
theorem rU_mul {i u : Int} : rU i u * (Nat.gcd i.natAbs u.natAbs : Nat) = u := by
  unfold rU
  exact Int.ediv_mul_cancel (Int.ofNat_dvd_left.mpr (Nat.gcd_dvd_right _ _))
theorem rU_pos {i u : Int} (h : 0 < u) : 0 < rU i u := by
  have g := gcd_ne (i := i) h
  have e := rU_mul (i := i) (u := u)
  rcases Int.lt_trichotomy (rU i u) 0 with c | c | c
  · have := Int.mul_neg_of_neg_of_pos c (show (0 : Int) < (Nat.gcd i.natAbs u.natAbs : Nat) by omega)
    omega
  · rw [c, Int.zero_mul] at e; omega
  · exact c
theorem rU_le {i u : Int} (h : 0 < u) : rU i u ≤ u := Int.ediv_le_self _ (by omega)
theorem rN_abs (i u : Int) : (rN i u).natAbs ≤ i.natAbs := Int.natAbs_ediv_le_natAbs _ _
/-- the ratio itself, by crosswise products -/
theorem r_cross {i u : Int} (h : 0 < u) : rN i u * u = i * rU i u := by
  have a := rN_mul (i := i) (u := u)
  have b := rU_mul (i := i) (u := u)
  have e1 : rN i u * u = rN i u * (rU i u * (Nat.gcd i.natAbs u.natAbs : Nat)) := by rw [b]
  have e2 : i * rU i u = rN i u * (Nat.gcd i.natAbs u.natAbs : Nat) * rU i u := by rw [a]
  rw [e1, e2, Int.mul_assoc, Int.mul_comm (rU i u)]
theorem r_coprime {i u : Int} (h : 0 < u) : Nat.gcd (rN i u).natAbs (rU i u).natAbs = 1 := by
  have g := gcd_ne (i := i) h
  have a := rN_mul (i := i) (u := u)
  have b := rU_mul (i := i) (u := u)
  have a2 : (rN i u).natAbs * Nat.gcd i.natAbs u.natAbs = i.natAbs := by
    have := congrArg Int.natAbs a
    rw [Int.natAbs_mul, Int.natAbs_natCast] at this
    exact this
  have b2 : (rU i u).natAbs * Nat.gcd i.natAbs u.natAbs = u.natAbs := by
    have := congrArg Int.natAbs b
    rw [Int.natAbs_mul, Int.natAbs_natCast] at this
    exact this
  have e : Nat.gcd ((rN i u).natAbs * Nat.gcd i.natAbs u.natAbs) ((rU i u).natAbs * Nat.gcd i.natAbs u.natAbs) = Nat.gcd i.natAbs u.natAbs := by rw [a2, b2]
  rw [Nat.gcd_mul_right] at e
  exact Nat.eq_of_mul_eq_mul_right g (by rw [e, Nat.one_mul])
/-- one ratio has one pair in least terms -/
theorem least_one {a u b v : Int} (hu : 0 < u) (hv : 0 < v) (ca : Nat.gcd a.natAbs u.natAbs = 1) (cb : Nat.gcd b.natAbs v.natAbs = 1) (e : a * v = b * u) : a = b ∧ u = v := by
  have n : a.natAbs * v.natAbs = b.natAbs * u.natAbs := by rw [← Int.natAbs_mul, ← Int.natAbs_mul, e]
  have d1 : u.natAbs ∣ v.natAbs := by
    have : u.natAbs ∣ a.natAbs * v.natAbs := ⟨b.natAbs, by rw [n, Nat.mul_comm]⟩
    exact Nat.Coprime.dvd_of_dvd_mul_left (Nat.Coprime.symm ca) this
  have d2 : v.natAbs ∣ u.natAbs := by
    have : v.natAbs ∣ b.natAbs * u.natAbs := ⟨a.natAbs, by rw [← n, Nat.mul_comm]⟩
    exact Nat.Coprime.dvd_of_dvd_mul_left (Nat.Coprime.symm cb) this
  have z : u.natAbs = v.natAbs := Nat.dvd_antisymm d1 d2
  have uv : u = v := by omega
  subst uv
  exact ⟨Int.eq_of_mul_eq_mul_right (by omega) e, rfl⟩
theorem rat_eq {i u k v : Int} (hu : 0 < u) (hv : 0 < v) (e : i * v = k * u) : rat i u = rat k v := by
  have c1 := r_cross (i := i) hu
  have c2 := r_cross (i := k) hv
  have p1 := rU_pos (i := i) hu
  have p2 := rU_pos (i := k) hv
  have x : rN i u * rU k v = rN k v * rU i u := by
    have h1 : rN i u * rU k v * (u * v) = rN k v * rU i u * (u * v) := by
      calc rN i u * rU k v * (u * v) = (rN i u * u) * (rU k v * v) := by ac_rfl
        _ = (i * rU i u) * (rU k v * v) := by rw [c1]
        _ = (i * v) * (rU i u * rU k v) := by ac_rfl
        _ = (k * u) * (rU i u * rU k v) := by rw [e]
        _ = (k * rU k v) * (rU i u * u) := by ac_rfl
        _ = (rN k v * v) * (rU i u * u) := by rw [c2]
        _ = rN k v * rU i u * (u * v) := by ac_rfl
    exact Int.eq_of_mul_eq_mul_right (Int.ne_of_gt (Int.mul_pos hu hv)) h1
  obtain ⟨a, b⟩ := least_one p1 p2 (r_coprime hu) (r_coprime hv) x
  rw [rat_def, rat_def, a, b]
theorem rat_again {i u : Int} (h : 0 < u) : rat (rN i u) (rU i u) = rat i u := rat_eq (rU_pos h) h (r_cross h)
/-- sums of ratios, from their least terms -/
theorem rat_plus {a u b v : Int} (hu : 0 < u) (hv : 0 < v) : rat (rN a u * rU b v + rN b v * rU a u) (rU a u * rU b v) = rat (a * v + b * u) (u * v) := by
  have c1 := r_cross (i := a) hu
  have c2 := r_cross (i := b) hv
  refine rat_eq (Int.mul_pos (rU_pos hu) (rU_pos hv)) (Int.mul_pos hu hv) ?_
  rw [Int.add_mul, Int.add_mul]
  have e1 : rN a u * rU b v * (u * v) = a * v * (rU a u * rU b v) := by
    calc rN a u * rU b v * (u * v) = (rN a u * u) * (rU b v * v) := by ac_rfl
      _ = _ := by rw [c1]; ac_rfl
  have e2 : rN b v * rU a u * (u * v) = b * u * (rU a u * rU b v) := by
    calc rN b v * rU a u * (u * v) = (rN b v * v) * (rU a u * u) := by ac_rfl
      _ = _ := by rw [c2]; ac_rfl
  rw [e1, e2]
/-- a ratio taken so often -/
theorem rat_often {a u c : Int} (hu : 0 < u) : rat (rN a u * c) (rU a u) = rat (a * c) u := by
  refine rat_eq (rU_pos hu) hu ?_
  have c1 := r_cross (i := a) hu
  calc rN a u * c * u = (rN a u * u) * c := by ac_rfl
    _ = _ := by rw [c1]; ac_rfl
theorem rN_le {a u : Int} (hu : 0 < u) : 0 ≤ rN a u ↔ 0 ≤ a := by
  have g := gcd_ne (i := a) hu
  have e := rN_mul (i := a) (u := u)
  generalize (Nat.gcd a.natAbs u.natAbs) = G at *
  constructor
  · intro h
    rw [← e]
    exact Int.mul_nonneg h (by omega)
  · intro h
    rcases Int.lt_or_le (rN a u) 0 with c | c
    · have := Int.mul_neg_of_neg_of_pos c (show (0 : Int) < G by omega)
      omega
    · exact c
theorem rN_lt {a u : Int} (hu : 0 < u) : 0 < rN a u ↔ 0 < a := by
  have g := gcd_ne (i := a) hu
  have e := rN_mul (i := a) (u := u)
  generalize (Nat.gcd a.natAbs u.natAbs) = G at *
  constructor
  · intro h
    rw [← e]
    exact Int.mul_pos h (by omega)
  · intro h
    rcases Int.lt_or_le 0 (rN a u) with c | c
    · exact c
    · have := Int.mul_nonneg (show 0 ≤ -(rN a u) by omega) (show (0 : Int) ≤ G by omega)
      rw [Int.neg_mul] at this
      omega
end FL

noncomputable section
namespace FL
open PySem PySem.Spec PyProof.Rows L2 EP
open PSr (sm sm_succ)
/-! divisors, by the root -/
def st (n r b : Nat) : Nat := if (r + b) * (r + b) ≤ n then r + b else r
def sq (n : Nat) : Nat := st n (st n (st n (st n (st n (st n 0 32) 16) 8) 4) 2) 1
def low (n : Nat) : List Nat := ((List.range (sq n)).map (· + 1)).filter fun d => n % d == 0
def high (n : Nat) : List Nat := (((low n).reverse).filter fun d => d * d != n).map (n / ·)
def divs (n : Nat) : List Nat := low n ++ high n
def chk1 : Bool := (List.range 2881).all fun n => Nat.ble (sq n * sq n) n && Nat.blt n ((sq n + 1) * (sq n + 1))
theorem chk1_ok : chk1 = true := by decide +kernel
theorem sq_isqrt {n : Nat} (h : n ≤ 2880) : Float64.isqrt n = sq n := by
  obtain ⟨a, b⟩ := Float64.isqrt_spec n
  have c := List.all_eq_true.mp chk1_ok n (List.mem_range.mpr (by omega))
  rw [Bool.and_eq_true, Nat.ble_eq, Nat.blt_eq] at c
  obtain ⟨c, d⟩ := c
  generalize Float64.isqrt n = r at *
  generalize sq n = s at *
  rcases Nat.lt_trichotomy r s with l | l | l
  · have := Nat.mul_le_mul (show r + 1 ≤ s by omega) (show r + 1 ≤ s by omega); omega
  · exact l
  · have := Nat.mul_le_mul (show s + 1 ≤ r by omega) (show s + 1 ≤ r by omega); omega
/-! lists of counts as data -/
def nl (L : List Nat) : List D := L.map fun d => .int (d : Nat)
theorem nl_length (L : List Nat) : (nl L).length = L.length := by simp [nl]
theorem lc_nl {tg : Gx} {tt : FL.Tx} {el : Ex} {ρw : En} {π : Pot} {p : Nat → Bool} {f : Nat → Int} : ∀ L : List Nat, (∀ x ∈ L, ∃ ρ2, tg (.int (x : Nat)) ρw = some ρ2 ∧ tt ρ2 π = some (p x, π) ∧ (p x = true → el ρ2 π = some (.int (f x), π))) → lcGo tg tt el ρw (nl L) π = some ((L.filter p).map fun x => .int (f x), π)
  | [], _ => rfl
  | x :: L, h => by
    have ih := lc_nl (p := p) (f := f) L fun y hy => h y (List.mem_cons_of_mem _ hy)
    obtain ⟨ρ2, e1, e2, e3⟩ := h x List.mem_cons_self
    show lcGo tg tt el ρw (.int (x : Nat) :: nl L) π = _
    unfold lcGo
    rw [e1]
    simp only [Option.bind_some]
    rw [e2]
    simp only [Option.bind_some]
    cases hp : p x with
    | true =>
      rw [List.filter_cons_of_pos hp]
      simp only [if_true]
      rw [e3 hp]
      simp only [Option.bind_some]
      rw [ih]
      rfl
    | false =>
      rw [List.filter_cons_of_neg (by simp [hp])]
      simp [ih, -lcGo]
theorem rg_nl (s : Nat) : rg 1 s = nl ((List.range s).map (· + 1)) := by
  unfold nl
  rw [List.map_map]
  show (List.range s).map (fun k => PyData.int (1 + (k : Nat))) = _
  refine List.map_congr_left fun i _ => ?_
  show PyData.int (1 + (i : Int)) = .int ((i + 1 : Nat) : Int)
  congr 1; omega
theorem low_mem {n d : Nat} (h : d ∈ low n) (n0 : 1 ≤ n) : 1 ≤ d ∧ d ≤ n ∧ n % d = 0 := by
  unfold low at h
  rw [List.mem_filter] at h
  obtain ⟨h1, h2⟩ := h
  have h2 : n % d = 0 := eq_of_beq h2
  obtain ⟨i, _, rfl⟩ := List.mem_map.mp h1
  exact ⟨by omega, Nat.le_of_dvd n0 (Nat.dvd_of_mod_eq_zero h2), h2⟩
theorem divs_mem {n d : Nat} (h : d ∈ divs n) (n0 : 1 ≤ n) : 1 ≤ d ∧ d ≤ n := by
  rcases List.mem_append.mp h with h | h
  · have := low_mem h n0; omega
  · obtain ⟨x, hx, rfl⟩ := List.mem_map.mp h
    have hx := (List.mem_filter.mp hx).1
    have := low_mem (List.mem_reverse.mp hx) n0
    exact ⟨(Nat.le_div_iff_mul_le (by omega)).mpr (by omega), Nat.div_le_self _ _⟩
theorem low_length (n : Nat) : (low n).length ≤ sq n := by
  unfold low
  refine Nat.le_trans (List.length_filter_le _ _) ?_
  simp
theorem sq_le (n : Nat) : sq n ≤ 63 := by
  have s : ∀ n r b, st n r b ≤ r + b := fun n r b => by unfold st; split <;> omega
  unfold sq
  have a := s n 0 32
  generalize st n 0 32 = x at *
  have b := s n x 16
  generalize st n x 16 = y at *
  have c := s n y 8
  generalize st n y 8 = z at *
  have d := s n z 4
  generalize st n z 4 = u at *
  have e := s n u 2
  generalize st n u 2 = v at *
  have f := s n v 1
  omega
theorem high_length (n : Nat) : (high n).length ≤ sq n := by
  unfold high
  rw [List.length_map]
  refine Nat.le_trans (List.length_filter_le _ _) ?_
  rw [List.length_reverse]
  exact low_length n
theorem modN {n x : Nat} (h : 0 < x) (h2 : x < 1000000) : modF (.int n) (.int x) = some (.int ((n % x : Nat) : Int)) := by
  rw [modF_of (divOk_of (by omega) (by omega)) (by omega)]; rfl
theorem divN {n x : Nat} (h : 0 < x) (h2 : x < 1000000) : fdivF (.int n) (.int x) = some (.int ((n / x : Nat) : Int)) := by
  rw [fdivF_of (divOk_of (by omega) (by omega)) (by omega)]; rfl
theorem eqN (n m : Nat) : eqF false (.int n) (.int m) = some (.bool (n == m)) := by
  rw [eqF_int]
  by_cases c : n = m
  · simp [c]
  · have : ¬ (n : Int) = m := by omega
    simp [c, this]
theorem powOk_of {i : Int} {e : Int} (h : i.natAbs < 2 ^ 64) (e0 : 0 ≤ e) (e1 : e ≤ 1000) : powOk i e = true := by
  refine cdec_of ⟨e0, ?_⟩
  have l := log2Lt (show 0 < 64 by decide) h
  have : Builtin.Int.intBits i ≤ 64 := by
    unfold Builtin.Int.intBits
    split <;> omega
  have : (Builtin.Int.intBits i : Int) * e ≤ 64 * 1000 := Int.mul_le_mul (by omega) e1 e0 (by decide)
  omega
theorem intsO_nl (f : Nat → Int) : ∀ L : List Nat, intsO (L.map fun x => .int (f x)) = some (L.map f)
  | [] => rfl
  | x :: L => by
    show (intsO (L.map fun x => .int (f x))).map _ = _
    rw [intsO_nl f L]; rfl
theorem divs_length (n : Nat) : (divs n).length ≤ 126 := by
  have := low_length n; have := high_length n; have := sq_le n
  unfold divs
  rw [List.length_append]; omega
theorem cut3 (x y z : D) : FL.cutD [x, y, z] (some 1) none = [y, z] := by simp [FL.cutD]
theorem lc_rowI {tg : Gx} {tt : FL.Tx} {el : Ex} {ρw : En} {π : Pot} (f : Nat → Int) (k : Nat → D) : ∀ L : List Nat, (∀ x ∈ L, ∃ ρ2, tg (.int (f x)) ρw = some ρ2 ∧ tt ρ2 π = some (true, π) ∧ el ρ2 π = some (k x, π)) → lcGo tg tt el ρw (L.map fun x => .int (f x)) π = some (L.map k, π)
  | [], _ => rfl
  | x :: L, h => by
    have ih := lc_rowI f k L fun y hy => h y (List.mem_cons_of_mem _ hy)
    obtain ⟨ρ2, e1, e2, e3⟩ := h x List.mem_cons_self
    show lcGo tg tt el ρw (.int (f x) :: L.map fun x => .int (f x)) π = _
    unfold lcGo
    rw [e1]
    simp only [Option.bind_some]
    rw [e2]
    simp only [Option.bind_some, if_true]
    rw [e3]
    simp only [Option.bind_some]
    rw [ih]
    rfl
theorem eqS (neg : Bool) (a b : Str) : eqF neg (.str a) (.str b) = some (.bool (if neg then !decide (a = b) else decide (a = b))) := rfl
theorem eqF_self (neg : Bool) {d : D} (h : SeqAt.shaped d = true) : eqF neg d d = some (.bool (!neg)) := by
  have r : PyData.eqv d d = true := SeqAt.eqv_refl d (by
    unfold SeqAt.shaped at h
    rw [Bool.and_eq_true] at h
    exact h.1)
  unfold eqF
  split
  · cases neg <;> simp_all
  · rw [if_pos ⟨h, h⟩, r]
    cases neg <;> rfl
end FL

noncomputable section
namespace FL
open PySem PySem.Spec PyProof.Rows L2 EP
variable {K : PySem.W.Frag}
/-! ### dict(list of pairs of a key and a whole number), as a dict of the def's own -/
def mI (l : List (Key × Int)) : List (Key × Int) := l.foldl (fun acc kv => putG acc kv.1 kv.2) []
def kvI (m : List (Key × Int)) : List (Key × D) := m.map fun kv => (kv.1, .int kv.2)
def kvV (m : List (Key × Int)) : List (Key × V) := m.map fun kv => (kv.1, V.int kv.2)
theorem kv_fst (m : List (Key × Int)) : (kvV m).map (·.1) = (kvI m).map (·.1) := by
  unfold kvV kvI
  rw [List.map_map, List.map_map]
  rfl
theorem kv_snd {H : Hp} {S : Addr → Prop} (m : List (Key × Int)) : DvA K H S ((kvV m).map (·.2)) ((kvI m).map (·.2)) := by
  have e1 : (kvV m).map (·.2) = (m.map (·.2)).map V.int := by unfold kvV; rw [List.map_map, List.map_map]; rfl
  have e2 : (kvI m).map (·.2) = (m.map (·.2)).map PyData.int := by unfold kvI; rw [List.map_map, List.map_map]; rfl
  rw [e1, e2]
  exact intsDv _
def prI : List D → Option (List (Key × Int))
  | [] => some []
  | d :: r => match d with
    | .tuple [k, .int v] => (keyD k).bind fun key => (prI r).map fun l => (key, v) :: l
    | _ => none
theorem putK_kvV (acc : List (Key × Int)) (k : Key) (v : Int) : L2.putK (kvV acc) k (V.int v) = kvV (putG acc k v) := by
  unfold L2.putK putG
  have a : ((kvV acc).any fun kv => decide (kv.1 = k)) = (acc.any fun kv => decide (kv.1 = k)) := by
    unfold kvV
    rw [List.any_map]
    rfl
  rw [a]
  split
  · unfold kvV
    rw [List.map_map, List.map_map]
    refine List.map_congr_left fun kv _ => ?_
    show (if kv.1 = k then (kv.1, V.int v) else (kv.1, V.int kv.2)) = ((if kv.1 = k then (kv.1, v) else kv).1, V.int (if kv.1 = k then (kv.1, v) else kv).2)
    split <;> rfl
  · unfold kvV
    rw [List.map_append]; rfl
theorem merge_kvV (l : List (Key × Int)) : L2.mergeK [] (kvV l) = kvV (mI l) := by
  have : ∀ (l acc : List (Key × Int)), L2.mergeK (kvV acc) (kvV l) = kvV (l.foldl (fun acc kv => putG acc kv.1 kv.2) acc) := by
    intro l
    induction l with
    | nil => intro acc; rfl
    | cons kv l ih =>
      intro acc
      show L2.mergeK (L2.putK (kvV acc) kv.1 (V.int kv.2)) (kvV l) = _
      rw [putK_kvV, ih]
      rfl
  exact this l []
theorem pairs_rel {H : Hp} {S : Addr → Prop} : ∀ {ds : List D} {xs : List V} {l : List (Key × Int)}, DvA K H S xs ds → prI ds = some l → ∃ ps : List Addr, xs = ps.map V.ref ∧ Paired (fun p kv => SqT K H p [kV kv.1, kv.2]) ps (kvV l)
  | [], _, l, h, e => by
    cases h
    cases e
    exact ⟨[], rfl, .nil⟩
  | d :: ds, _, l, h, e => by
    cases h with
    | cons a b =>
      unfold prI at e
      split at e
      · rename_i k v
        obtain ⟨key, ek, e⟩ := Option.bind_eq_some_iff.mp e
        obtain ⟨l', el, e⟩ := Option.map_eq_some_iff.mp e
        subst e
        obtain ⟨ps, e1, e2⟩ := pairs_rel b el
        cases a with
        | tup st da =>
          rename_i a0 xs0
          cases da with
          | cons q1 q2 =>
            cases q2 with
            | cons q3 q4 =>
              cases q4
              cases q3
              have kv := keyD_some (fr := ⟨S, none⟩) ek (.inl q1)
              subst kv
              exact ⟨a0 :: ps, by rw [List.map_cons, e1], .cons st.sq e2⟩
      · cases e
def rDictP (K : PySem.W.Frag) : List V → Hp → VK → Prop := fun xs H Q => ∃ (a : Addr) (ps : List Addr) (kvs : List (Key × V)), xs = [.ref a] ∧ SqL K H a (ps.map V.ref) ∧ Paired (fun p kv => SqT K H p [kV kv.1, kv.2]) ps kvs ∧
    ∀ p, H p = none → Q (.ref p) (upd H p (.dK (L2.mergeK [] kvs)))
theorem cr_dictP {X : Cx} (hc : X.calm = true) : CallR X (.type "dict") (rDictP X.K) := call_dictP hc
theorem Rel.setDctI {fr : Fm} {σ : L2.St} {H H' : Hp} {ρ : En} {π π' : Pot} (R : Rel K fr σ H ρ π) (R' : Rel K fr σ H' ρ π') (c : ChgP fr H H') {i : Nat} {p : Addr} (m : List (Key × Int))
    (h0 : H p = none) (h1 : H' p = some (.dK (kvV m)))
    (hscr : ∀ (j : Nat) (ns : List Int) (a : Addr), ρ[j]? = some (.scr ns) → σ[j]? = some (some (.ref a)) → a ≠ p) :
    Rel K fr (σ.set i (some (.ref p))) H' (ρ.set i (.dct (kvI m))) π' ∧ Step (wd fr σ ρ H) (wd fr (σ.set i (some (.ref p))) (ρ.set i (.dct (kvI m))) H') := by
  have ow : ∀ a, IsOwn (σ.set i (some (.ref p))) (ρ.set i (.dct (kvI m))) a → IsOwn σ ρ a ∨ a = p := by
    rintro a ⟨j, s, e, o, q⟩
    by_cases z : i = j
    · subst z
      rw [List.getElem?_set_self'] at q
      cases y : σ[i]? with
      | none => rw [y] at q; cases q
      | some w =>
        rw [y] at q
        have q2 : some (V.ref p) = some (V.ref a) := Option.some.inj q
        cases q2
        exact .inr rfl
    · rw [List.getElem?_set_ne z] at e q
      exact .inl ⟨j, s, e, o, q⟩
  have nown : ¬ IsOwn σ ρ p := fun z => R.ownSome z h0
  have st : Step (wd fr σ ρ H) (wd fr (σ.set i (some (.ref p))) (ρ.set i (.dct (kvI m))) H') := by
    refine ⟨fun b o n z => c b o (fun y => n (.inl y)) z, fun a z => ?_, fun a z => ?_⟩
    · rcases z with z | z
      · exact .inl (.inl z)
      · rcases ow a z with z | z
        · exact .inl (.inr z)
        · exact .inr (by rw [z]; exact h0)
    · rcases z with z | z
      · exact .inl (.inl z)
      · rcases ow a z with z | z
        · exact .inl (.inr z)
        · exact .inr (by rw [z]; exact h0)
  refine ⟨⟨by simp [R.len], fun j s e => ?_, fun j k s t a e1 e2 o1 o2 q1 q2 => ?_, R'.all, fun a h => ?_, fun a h => ?_⟩, st⟩
  · by_cases z : i = j
    · subst z
      have l : i < ρ.length := by
        have := (List.getElem?_eq_some_iff.mp e).1
        simpa using this
      rw [List.getElem?_set_self l] at e
      cases e
      exact ⟨p, kvV m, by rw [List.getElem?_set_self (by rw [R.len]; exact l)], h1, kv_fst m, kv_snd m⟩
    · rw [List.getElem?_set_ne z] at e ⊢
      have sl := R.slot j s e
      have nu : ∀ a, (wd fr (σ.set i (some (.ref p))) (ρ.set i (.dct (kvI m))) H').U a → (wd fr σ ρ H).U a ∨ a = p := fun a z => by
        rcases z with z | z
        · exact .inl (.inl z)
        · exact (ow a z).imp .inr id
      cases s with
      | un => trivial
      | dat d => obtain ⟨v, e, q⟩ := sl; exact ⟨v, e, q.step R.us st⟩
      | arg es =>
        obtain ⟨a, ys, e, q, n, r⟩ := sl
        refine ⟨a, ys, e, st.keep _ _ n q, fun z => ?_, r.step R.us st⟩
        rcases nu a z with z | z
        · exact n z
        · rw [z] at q
          have q : H p = _ := q
          rw [h0] at q; cases q
      | own es =>
        obtain ⟨a, ys, e3, q, r⟩ := sl
        have np : fr.pt ≠ some a := fun z => (R.pt a z).2.1 ⟨j, _, e, rfl, e3⟩
        exact ⟨a, ys, e3, c _ _ np q, r.step R.us st⟩
      | dct kvs =>
        obtain ⟨a, ys, e3, q, m, r⟩ := sl
        have np : fr.pt ≠ some a := fun z => (R.pt a z).2.1 ⟨j, _, e, rfl, e3⟩
        exact ⟨a, ys, e3, c _ _ np q, m, r.step R.us st⟩
      | pot => exact sl
      | scr ns =>
        obtain ⟨a, e3, q, n⟩ := sl
        refine ⟨a, e3, ?_, fun z => ?_⟩
        · rcases q with (q | ⟨u, q⟩) | q
          · exact .inl (.inl (st.keep _ _ n q))
          · exact .inl (.inr ⟨u, st.keep _ _ n q⟩)
          · exact .inr q
        · rcases nu a z with z | z
          · exact n z
          · exact hscr j ns a e e3 z
  · by_cases d1 : i = j
    · by_cases d2 : i = k
      · rw [← d1, ← d2]
      · exfalso
        subst d1
        rw [List.getElem?_set_self'] at q1
        rw [List.getElem?_set_ne d2] at e2 q2
        cases y : σ[i]? with
        | none => rw [y] at q1; cases q1
        | some w =>
          rw [y] at q1
          have q3 : some (V.ref p) = some (V.ref a) := Option.some.inj q1
          cases q3
          exact nown ⟨k, t, e2, o2, q2⟩
    · by_cases d2 : i = k
      · exfalso
        subst d2
        rw [List.getElem?_set_self'] at q2
        rw [List.getElem?_set_ne d1] at e1 q1
        cases y : σ[i]? with
        | none => rw [y] at q2; cases q2
        | some w =>
          rw [y] at q2
          have q3 : some (V.ref p) = some (V.ref a) := Option.some.inj q2
          cases q3
          exact nown ⟨j, s, e1, o1, q1⟩
      · rw [List.getElem?_set_ne d1] at e1 q1
        rw [List.getElem?_set_ne d2] at e2 q2
        exact R.nd j k s t a e1 e2 o1 o2 q1 q2
  · obtain ⟨p1, p2, p3⟩ := R'.pt a h
    refine ⟨p1, fun z => ?_, p3⟩
    rcases ow a z with z | z
    · exact p2 z
    · rw [z] at p1
      exact R.all p p1 h0
  · rcases ow a h with z | z
    · exact R.os a z
    · rw [z]; exact fun y => R.all p y h0

@[simp] def sDL (i : Nat) (f : Ex) : Sx := fun ρ π => (f ρ π).bind fun y => match y.1 with
  | .list ds => (prI ds).bind fun l => if hasScr ρ = true then none else some (ρ.set i (.dct (kvI (mI l))), y.2, .nx)
  | _ => none
theorem sf_dlist {nw : Bool} {i : Nat} {te : TE} {f : Ex} (h : EF K te f) : SF K nw (tAsg (tCB (rDictP K) (tCons te tNil)) (gName i)) (sDL i f) := by
  refine ⟨fun fr σ H ρ π R ρ' π' o e D q => ?_⟩
  unfold sDL at e
  obtain ⟨y, ef, e⟩ := Option.bind_eq_some_iff.mp e
  split at e
  · rename_i ds hy
    obtain ⟨l, el, e⟩ := Option.bind_eq_some_iff.mp e
    split at e
    · cases e
    · rename_i hs
      have hs : hasScr ρ = false := by simpa using hs
      cases e
      refine h.go fr σ H ρ π R y.1 y.2 ef _ fun v H1 R1 c b => ?_
      rw [hy] at b
      cases b with
      | lst e1 n1 r1 =>
        obtain ⟨ps, e2, e3⟩ := pairs_rel r1 el
        subst e2
        refine ⟨_, ps, kvV l, rfl, sqL e1, e3, fun p hp => ?_⟩
        rw [merge_kvV]
        have R2 : Rel K fr σ (upd H1 p (.dK (kvV (mI l)))) ρ y.2 := R1.kp (upN hp)
        obtain ⟨R3, s3⟩ := R1.setDctI R2 (.of (upN hp)) (i := i) (mI l) hp upd_same (fun j ns a e1 _ => (noScr hs e1).elim)
        exact q _ _ R3 (((c.step σ ρ)).trans R.us s3)
  · cases e
/-! ### whether a list has something -/
@[simp] def xTL (f : Ex) : Tx := fun ρ π => (f ρ π).bind fun x => match x.1 with
  | .list ds => some (!ds.isEmpty, x.2)
  | _ => none
theorem DvA.empty {H : Hp} {S : Addr → Prop} {xs : List V} {ds : List D} (h : DvA K H S xs ds) : (!ds.isEmpty) = !xs.isEmpty := by
  cases h <;> rfl
theorem tf_truth {t : TE} {f : Ex} (h : BF K t f) : TF K (fun σ H Q => t σ H fun x H' => ∃ k, TruV K x H' k ∧ Q k H') (xTL f) := by
  refine ⟨fun fr σ H ρ π R d π' e Q q => ?_⟩
  unfold xTL at e
  obtain ⟨x, ea, e⟩ := Option.bind_eq_some_iff.mp e
  split at e
  · rename_i ds hx
    cases e
    refine h.go fr σ H ρ π R x.1 x.2 ea _ fun v H' R' c b => ?_
    rw [hx] at b
    obtain ⟨a, xs, rfl, e1, r1⟩ := b.list
    exact ⟨_, .inl ⟨xs, sqL e1, r1.empty⟩, q H' R' c⟩
  · cases e
/-! ### a, b = x, y where a comprehension reads a or b: a tuple is built and taken apart -/
theorem sf_manyT {nw : Bool} {i j : Nat} {k l : Bool} {t : TA} {a : Ax} (h : MF K [k, l] t a) : SF K nw (tAsg (tTup t) (gTup K 2 (gCons (gName i) (gCons (gName j) gNil)))) (sMany [i, j] [k, l] a) := by
  refine ⟨fun fr σ H ρ π R ρ' π' o e D q => ?_⟩
  obtain ⟨ds, π1, ρ1, ea, eb, e⟩ := sMany_some e
  cases e
  refine h.fin R ea eb fun vs H' ln R' st => ⟨szOk (by have : vs.length = 2 := ln; omega), fun p hp => ?_⟩
  match vs, ln with
  | [v, w], _ =>
    refine ⟨p, [v, w], rfl, .inl (.inl upd_same), rfl, v, [w], rfl, w, [], rfl, rfl, ?_⟩
    exact q _ _ (R'.kp (upN hp)) (st.trans R.us ((ChgP.of (fr := fr) (upN hp)).step _ _))
end FL

noncomputable section
namespace K81
open PySem PySem.Spec PyProof.Rows L2 EP FL
def topS (i : Nat) : Stmt := PySem.Challenge.pw_etaparts_k81_whole_numbers_carried_by_pr.main.body.getD i (.Pass ⟨0, 0, 0, 0⟩)
abbrev s_is_integer : Stmt := topS 14
theorem sc_is_integer : FnScope ["value"] ["value"] (defScope s_is_integer) := ⟨rfl, rfl, rfl, by decide +kernel, rfl, by decide +kernel, by decide +kernel⟩
abbrev s_is_within : Stmt := topS 15
theorem sc_is_within : FnScope ["value", "low", "high"] ["value", "low", "high"] (defScope s_is_within) := ⟨rfl, rfl, rfl, by decide +kernel, rfl, by decide +kernel, by decide +kernel⟩
abbrev s_is_tagged : Stmt := topS 16
theorem sc_is_tagged : FnScope ["value", "word", "length"] ["value", "word", "length"] (defScope s_is_tagged) := ⟨rfl, rfl, rfl, by decide +kernel, rfl, by decide +kernel, by decide +kernel⟩
abbrev s_is_pair : Stmt := topS 17
theorem sc_is_pair : FnScope ["value"] ["value"] (defScope s_is_pair) := ⟨rfl, rfl, rfl, by decide +kernel, rfl, by decide +kernel, by decide +kernel⟩
abbrev s_is_rising : Stmt := topS 18
theorem sc_is_rising : FnScope ["numbers", "ahead", "behind"] ["numbers"] (defScope s_is_rising) := ⟨rfl, rfl, rfl, by decide +kernel, rfl, by decide +kernel, by decide +kernel⟩
abbrev s_check_many : Stmt := topS 19
theorem sc_check_many : FnScope ["many", "most"] ["many", "most"] (defScope s_check_many) := ⟨rfl, rfl, rfl, by decide +kernel, rfl, by decide +kernel, by decide +kernel⟩
abbrev s_check_number : Stmt := topS 20
theorem sc_check_number : FnScope ["number", "low", "high"] ["number", "low", "high"] (defScope s_check_number) := ⟨rfl, rfl, rfl, by decide +kernel, rfl, by decide +kernel, by decide +kernel⟩
abbrev s_check_integer : Stmt := topS 21
theorem sc_check_integer : FnScope ["number"] ["number"] (defScope s_check_integer) := ⟨rfl, rfl, rfl, by decide +kernel, rfl, by decide +kernel, by decide +kernel⟩
abbrev s_check_level : Stmt := topS 22
theorem sc_check_level : FnScope ["level"] ["level"] (defScope s_check_level) := ⟨rfl, rfl, rfl, by decide +kernel, rfl, by decide +kernel, by decide +kernel⟩
abbrev s_check_digits : Stmt := topS 23
theorem sc_check_digits : FnScope ["numbers", "least_beyond", "number"] ["numbers"] (defScope s_check_digits) := ⟨rfl, rfl, rfl, by decide +kernel, rfl, by decide +kernel, by decide +kernel⟩
abbrev s_divisors_of : Stmt := topS 25
theorem sc_divisors_of : FnScope ["number", "low", "high", "divisor"] ["number"] (defScope s_divisors_of) := ⟨rfl, rfl, rfl, by decide +kernel, rfl, by decide +kernel, by decide +kernel⟩
abbrev s_factored : Stmt := topS 26
theorem sc_factored : FnScope ["number", "found", "prime", "often"] ["number"] (defScope s_factored) := ⟨rfl, rfl, rfl, by decide +kernel, rfl, by decide +kernel, by decide +kernel⟩
abbrev s_is_prime : Stmt := topS 27
theorem sc_is_prime : FnScope ["value"] ["value"] (defScope s_is_prime) := ⟨rfl, rfl, rfl, by decide +kernel, rfl, by decide +kernel, by decide +kernel⟩
abbrev s_index_of : Stmt := topS 28
theorem sc_index_of : FnScope ["level", "index", "prime", "_"] ["level"] (defScope s_index_of) := ⟨rfl, rfl, rfl, by decide +kernel, rfl, by decide +kernel, by decide +kernel⟩
abbrev s_symbol : Stmt := topS 29
theorem sc_symbol : FnScope ["first", "prime", "rest", "root"] ["first", "prime"] (defScope s_symbol) := ⟨rfl, rfl, rfl, by decide +kernel, rfl, by decide +kernel, by decide +kernel⟩
abbrev s_is_product : Stmt := topS 31
theorem sc_is_product : FnScope ["value", "powers", "pair"] ["value"] (defScope s_is_product) := ⟨rfl, rfl, rfl, by decide +kernel, rfl, by decide +kernel, by decide +kernel⟩
abbrev s_is_step_power : Stmt := topS 32
theorem sc_is_step_power : FnScope ["value"] ["value"] (defScope s_is_step_power) := ⟨rfl, rfl, rfl, by decide +kernel, rfl, by decide +kernel, by decide +kernel⟩
abbrev s_check_product : Stmt := topS 33
theorem sc_check_product : FnScope ["product"] ["product"] (defScope s_check_product) := ⟨rfl, rfl, rfl, by decide +kernel, rfl, by decide +kernel, by decide +kernel⟩
abbrev s_odd_primes : Stmt := topS 35
theorem sc_odd_primes : FnScope ["number", "part", "prime", "often"] ["number"] (defScope s_odd_primes) := ⟨rfl, rfl, rfl, by decide +kernel, rfl, by decide +kernel, by decide +kernel⟩
abbrev s_power_sum : Stmt := topS 37
theorem sc_power_sum : FnScope ["product", "_", "power"] ["product"] (defScope s_power_sum) := ⟨rfl, rfl, rfl, by decide +kernel, rfl, by decide +kernel, by decide +kernel⟩
abbrev s_shift_sum : Stmt := topS 38
theorem sc_shift_sum : FnScope ["product", "step", "power"] ["product"] (defScope s_shift_sum) := ⟨rfl, rfl, rfl, by decide +kernel, rfl, by decide +kernel, by decide +kernel⟩
abbrev s_turned_sum : Stmt := topS 39
theorem sc_turned_sum : FnScope ["product", "level", "step", "power"] ["product", "level"] (defScope s_turned_sum) := ⟨rfl, rfl, rfl, by decide +kernel, rfl, by decide +kernel, by decide +kernel⟩
abbrev s_has_steps_of : Stmt := topS 40
theorem sc_has_steps_of : FnScope ["product", "level", "step", "_"] ["product", "level"] (defScope s_has_steps_of) := ⟨rfl, rfl, rfl, by decide +kernel, rfl, by decide +kernel, by decide +kernel⟩
abbrev s_lacking : Stmt := topS 42
theorem sc_lacking : FnScope ["product", "level", "words", "dividing"] ["product", "level"] (defScope s_lacking) := ⟨rfl, rfl, rfl, by decide +kernel, rfl, by decide +kernel, by decide +kernel⟩
abbrev s_check_fits : Stmt := topS 43
theorem sc_check_fits : FnScope ["product", "level"] ["product", "level"] (defScope s_check_fits) := ⟨rfl, rfl, rfl, by decide +kernel, rfl, by decide +kernel, by decide +kernel⟩
abbrev s_kind_told : Stmt := topS 44
theorem sc_kind_told : FnScope ["product", "weight", "steps", "step", "power", "sign"] ["product"] (defScope s_kind_told) := ⟨rfl, rfl, rfl, by decide +kernel, rfl, by decide +kernel, by decide +kernel⟩
abbrev s_width_at : Stmt := topS 46
theorem sc_width_at : FnScope ["level", "end"] ["level", "end"] (defScope s_width_at) := ⟨rfl, rfl, rfl, by decide +kernel, rfl, by decide +kernel, by decide +kernel⟩
abbrev s_order_part : Stmt := topS 47
theorem sc_order_part : FnScope ["product", "level", "end", "total", "step", "power"] ["product", "level", "end"] (defScope s_order_part) := ⟨rfl, rfl, rfl, by decide +kernel, rfl, by decide +kernel, by decide +kernel⟩
abbrev s_order_parts : Stmt := topS 48
theorem sc_order_parts : FnScope ["product", "level", "end"] ["product", "level"] (defScope s_order_parts) := ⟨rfl, rfl, rfl, by decide +kernel, rfl, by decide +kernel, by decide +kernel⟩
abbrev s_row_by_powers : Stmt := topS 50
theorem sc_row_by_powers : FnScope ["powers", "many", "sums", "row", "place", "total", "one", "number"] ["powers", "many"] (defScope s_row_by_powers) := ⟨rfl, rfl, rfl, by decide +kernel, rfl, by decide +kernel, by decide +kernel⟩
abbrev s_sums_of : Stmt := topS 51
theorem sc_sums_of : FnScope ["powers", "many", "sums", "divisor", "place"] ["powers", "many"] (defScope s_sums_of) := ⟨rfl, rfl, rfl, by decide +kernel, rfl, by decide +kernel, by decide +kernel⟩
abbrev s_numbers_of : Stmt := topS 53
theorem sc_numbers_of : FnScope ["product", "many", "powers", "step", "power", "place"] ["product", "many"] (defScope s_numbers_of) := ⟨rfl, rfl, rfl, by decide +kernel, rfl, by decide +kernel, by decide +kernel⟩
abbrev s_placed_row : Stmt := topS 55
theorem sc_placed_row : FnScope ["level", "product", "many", "row"] ["level", "product", "many"] (defScope s_placed_row) := ⟨rfl, rfl, rfl, by decide +kernel, rfl, by decide +kernel, by decide +kernel⟩
abbrev s_check_carried : Stmt := topS 56
theorem sc_check_carried : FnScope ["level", "product"] ["level", "product"] (defScope s_check_carried) := ⟨rfl, rfl, rfl, by decide +kernel, rfl, by decide +kernel, by decide +kernel⟩
abbrev s_is_carried : Stmt := topS 57
theorem sc_is_carried : FnScope ["level", "product", "part"] ["level", "product"] (defScope s_is_carried) := ⟨rfl, rfl, rfl, by decide +kernel, rfl, by decide +kernel, by decide +kernel⟩
abbrev s_first_placed : Stmt := topS 58
theorem sc_first_placed : FnScope ["product"] ["product"] (defScope s_first_placed) := ⟨rfl, rfl, rfl, by decide +kernel, rfl, by decide +kernel, by decide +kernel⟩
abbrev s_placed_numbers : Stmt := topS 59
theorem sc_placed_numbers : FnScope ["product", "many", "ahead"] ["product", "many"] (defScope s_placed_numbers) := ⟨rfl, rfl, rfl, by decide +kernel, rfl, by decide +kernel, by decide +kernel⟩
abbrev s_is_serving_prime : Stmt := topS 60
theorem sc_is_serving_prime : FnScope ["level", "prime"] ["level", "prime"] (defScope s_is_serving_prime) := ⟨rfl, rfl, rfl, by decide +kernel, rfl, by decide +kernel, by decide +kernel⟩
abbrev s_check_prime : Stmt := topS 61
theorem sc_check_prime : FnScope ["level", "prime"] ["level", "prime"] (defScope s_check_prime) := ⟨rfl, rfl, rfl, by decide +kernel, rfl, by decide +kernel, by decide +kernel⟩
abbrev s_carried_row : Stmt := topS 62
theorem sc_carried_row : FnScope ["level", "product", "prime", "many", "row"] ["level", "product", "prime", "many"] (defScope s_carried_row) := ⟨rfl, rfl, rfl, by decide +kernel, rfl, by decide +kernel, by decide +kernel⟩
abbrev s_carried_numbers : Stmt := topS 63
theorem sc_carried_numbers : FnScope ["product", "placed", "prime", "many", "row", "factor", "place"] ["product", "placed", "prime", "many"] (defScope s_carried_numbers) := ⟨rfl, rfl, rfl, by decide +kernel, rfl, by decide +kernel, by decide +kernel⟩
abbrev s_carried_by : Stmt := topS 64
theorem sc_carried_by : FnScope ["product", "prime", "weight", "sign", "factor", "_"] ["product", "prime"] (defScope s_carried_by) := ⟨rfl, rfl, rfl, by decide +kernel, rfl, by decide +kernel, by decide +kernel⟩
abbrev s_symbol_at : Stmt := topS 65
theorem sc_symbol_at : FnScope ["level", "product", "prime"] ["level", "product", "prime"] (defScope s_symbol_at) := ⟨rfl, rfl, rfl, by decide +kernel, rfl, by decide +kernel, by decide +kernel⟩
abbrev s_places_asked : Stmt := topS 66
theorem sc_places_asked : FnScope ["level", "product"] ["level", "product"] (defScope s_places_asked) := ⟨rfl, rfl, rfl, by decide +kernel, rfl, by decide +kernel, by decide +kernel⟩
abbrev s_last_asked : Stmt := topS 67
theorem sc_last_asked : FnScope ["level", "product"] ["level", "product"] (defScope s_last_asked) := ⟨rfl, rfl, rfl, by decide +kernel, rfl, by decide +kernel, by decide +kernel⟩
abbrev s_decided_multiple : Stmt := topS 69
theorem sc_decided_multiple : FnScope ["level", "product", "prime", "answer"] ["level", "product", "prime"] (defScope s_decided_multiple) := ⟨rfl, rfl, rfl, by decide +kernel, rfl, by decide +kernel, by decide +kernel⟩
abbrev s_check_asked : Stmt := topS 70
theorem sc_check_asked : FnScope ["level", "product", "prime"] ["level", "product", "prime"] (defScope s_check_asked) := ⟨rfl, rfl, rfl, by decide +kernel, rfl, by decide +kernel, by decide +kernel⟩
abbrev s_check_places : Stmt := topS 71
theorem sc_check_places : FnScope ["level", "product", "prime"] ["level", "product", "prime"] (defScope s_check_places) := ⟨rfl, rfl, rfl, by decide +kernel, rfl, by decide +kernel, by decide +kernel⟩
abbrev s_placed_to : Stmt := topS 72
theorem sc_placed_to : FnScope ["level", "product", "prime"] ["level", "product", "prime"] (defScope s_placed_to) := ⟨rfl, rfl, rfl, by decide +kernel, rfl, by decide +kernel, by decide +kernel⟩
abbrev s_decided : Stmt := topS 73
theorem sc_decided : FnScope ["level", "product", "prime", "placed", "carried", "number", "place"] ["level", "product", "prime", "placed"] (defScope s_decided) := ⟨rfl, rfl, rfl, by decide +kernel, rfl, by decide +kernel, by decide +kernel⟩
abbrev s_first_beside : Stmt := topS 74
theorem sc_first_beside : FnScope ["placed", "carried", "number", "place", "told"] ["placed", "carried", "number"] (defScope s_first_beside) := ⟨rfl, rfl, rfl, by decide +kernel, rfl, by decide +kernel, by decide +kernel⟩
abbrev s_is_multiple : Stmt := topS 75
theorem sc_is_multiple : FnScope ["level", "product", "prime", "number"] ["level", "product", "prime", "number"] (defScope s_is_multiple) := ⟨rfl, rfl, rfl, by decide +kernel, rfl, by decide +kernel, by decide +kernel⟩
abbrev s_law_pot : Stmt := topS 77
theorem sc_law_pot : FnScope ["script", "k", "cell"] ["script", "k"] (defScope s_law_pot) := ⟨rfl, rfl, rfl, by decide +kernel, rfl, by decide +kernel, by decide +kernel⟩
abbrev s_law_draw : Stmt := topS 78
theorem sc_law_draw : FnScope ["pot", "many", "digit"] ["pot", "many"] (defScope s_law_draw) := ⟨rfl, rfl, rfl, by decide +kernel, rfl, by decide +kernel, by decide +kernel⟩
abbrev s_law_pick : Stmt := topS 79
theorem sc_law_pick : FnScope ["pot", "some"] ["pot", "some"] (defScope s_law_pick) := ⟨rfl, rfl, rfl, by decide +kernel, rfl, by decide +kernel, by decide +kernel⟩
abbrev s_law_primes : Stmt := topS 80
theorem sc_law_primes : FnScope ["number", "one", "other"] ["number"] (defScope s_law_primes) := ⟨rfl, rfl, rfl, by decide +kernel, rfl, by decide +kernel, by decide +kernel⟩
abbrev s_law_some : Stmt := topS 81
theorem sc_law_some : FnScope ["some"] [] (defScope s_law_some) := ⟨rfl, rfl, rfl, by decide +kernel, rfl, by decide +kernel, by decide +kernel⟩
abbrev s_law_drawn : Stmt := topS 82
theorem sc_law_drawn : FnScope ["pot", "level", "powers", "late", "some", "step", "power", "other", "far"] ["pot"] (defScope s_law_drawn) := ⟨rfl, rfl, rfl, by decide +kernel, rfl, by decide +kernel, by decide +kernel⟩
abbrev s_law_weight : Stmt := topS 83
theorem sc_law_weight : FnScope ["product", "step", "power"] ["product"] (defScope s_law_weight) := ⟨rfl, rfl, rfl, by decide +kernel, rfl, by decide +kernel, by decide +kernel⟩
abbrev s_law_shift : Stmt := topS 84
theorem sc_law_shift : FnScope ["product", "step", "power"] ["product"] (defScope s_law_shift) := ⟨rfl, rfl, rfl, by decide +kernel, rfl, by decide +kernel, by decide +kernel⟩
abbrev s_law_sign : Stmt := topS 85
theorem sc_law_sign : FnScope ["level", "product", "found", "prime", "often", "step", "power", "left"] ["level", "product"] (defScope s_law_sign) := ⟨rfl, rfl, rfl, by decide +kernel, rfl, by decide +kernel, by decide +kernel⟩
abbrev s_law_symbol : Stmt := topS 86
theorem sc_law_symbol : FnScope ["number", "prime", "rest", "one"] ["number", "prime"] (defScope s_law_symbol) := ⟨rfl, rfl, rfl, by decide +kernel, rfl, by decide +kernel, by decide +kernel⟩
abbrev s_law_placed : Stmt := topS 87
theorem sc_law_placed : FnScope ["product", "many", "sums", "found", "step", "power", "factor", "place", "n", "k"] ["product", "many"] (defScope s_law_placed) := ⟨rfl, rfl, rfl, by decide +kernel, rfl, by decide +kernel, by decide +kernel⟩
abbrev s_law_carried : Stmt := topS 88
theorem sc_law_carried : FnScope ["product", "sign", "prime", "placed", "many", "e", "factor", "turn", "n"] ["product", "sign", "prime", "placed", "many"] (defScope s_law_carried) := ⟨rfl, rfl, rfl, by decide +kernel, rfl, by decide +kernel, by decide +kernel⟩
abbrev s_law_asked : Stmt := topS 89
theorem sc_law_asked : FnScope ["level", "product", "index", "prime"] ["level", "product"] (defScope s_law_asked) := ⟨rfl, rfl, rfl, by decide +kernel, rfl, by decide +kernel, by decide +kernel⟩
abbrev s_law_due : Stmt := topS 90
theorem sc_law_due : FnScope ["placed", "carried", "shift", "bound", "number", "n", "gap"] ["placed", "carried", "shift", "bound"] (defScope s_law_due) := ⟨rfl, rfl, rfl, by decide +kernel, rfl, by decide +kernel, by decide +kernel⟩
abbrev s_law_right : Stmt := topS 91
theorem sc_law_right : FnScope ["pot", "level", "product", "bound", "sign", "some", "prime", "many", "placed", "carried", "told", "due", "number", "one"] ["pot"] (defScope s_law_right) := ⟨rfl, rfl, rfl, by decide +kernel, rfl, by decide +kernel, by decide +kernel⟩
abbrev s_law : Stmt := topS 92
theorem sc_law : FnScope ["script"] ["script"] (defScope s_law) := ⟨rfl, rfl, rfl, by decide +kernel, rfl, by decide +kernel, by decide +kernel⟩
structure Tx (K : PySem.W.Frag) (mg : Str → Option Value) where
  f_is_integer : Addr
  fd_is_integer : FuncData
  F_is_integer : Fun K "is_integer" "is_integer" s_is_integer f_is_integer fd_is_integer
  m_is_integer : mg "is_integer" = some (.ref f_is_integer)
  b_is_integer : Binds K fd_is_integer ["value"] []
  f_is_within : Addr
  fd_is_within : FuncData
  F_is_within : Fun K "is_within" "is_within" s_is_within f_is_within fd_is_within
  m_is_within : mg "is_within" = some (.ref f_is_within)
  b_is_within : Binds K fd_is_within ["value", "low", "high"] []
  f_is_tagged : Addr
  fd_is_tagged : FuncData
  F_is_tagged : Fun K "is_tagged" "is_tagged" s_is_tagged f_is_tagged fd_is_tagged
  m_is_tagged : mg "is_tagged" = some (.ref f_is_tagged)
  b_is_tagged : Binds K fd_is_tagged ["value", "word", "length"] []
  f_is_pair : Addr
  fd_is_pair : FuncData
  F_is_pair : Fun K "is_pair" "is_pair" s_is_pair f_is_pair fd_is_pair
  m_is_pair : mg "is_pair" = some (.ref f_is_pair)
  b_is_pair : Binds K fd_is_pair ["value"] []
  f_is_rising : Addr
  fd_is_rising : FuncData
  F_is_rising : Fun K "is_rising" "is_rising" s_is_rising f_is_rising fd_is_rising
  m_is_rising : mg "is_rising" = some (.ref f_is_rising)
  b_is_rising : Binds K fd_is_rising ["numbers"] []
  f_check_many : Addr
  fd_check_many : FuncData
  F_check_many : Fun K "check_many" "check_many" s_check_many f_check_many fd_check_many
  m_check_many : mg "check_many" = some (.ref f_check_many)
  b_check_many : Binds K fd_check_many ["many", "most"] []
  f_check_number : Addr
  fd_check_number : FuncData
  F_check_number : Fun K "check_number" "check_number" s_check_number f_check_number fd_check_number
  m_check_number : mg "check_number" = some (.ref f_check_number)
  b_check_number : Binds K fd_check_number ["number", "low", "high"] []
  f_check_integer : Addr
  fd_check_integer : FuncData
  F_check_integer : Fun K "check_integer" "check_integer" s_check_integer f_check_integer fd_check_integer
  m_check_integer : mg "check_integer" = some (.ref f_check_integer)
  b_check_integer : Binds K fd_check_integer ["number"] []
  f_check_level : Addr
  fd_check_level : FuncData
  F_check_level : Fun K "check_level" "check_level" s_check_level f_check_level fd_check_level
  m_check_level : mg "check_level" = some (.ref f_check_level)
  b_check_level : Binds K fd_check_level ["level"] []
  f_check_digits : Addr
  fd_check_digits : FuncData
  F_check_digits : Fun K "check_digits" "check_digits" s_check_digits f_check_digits fd_check_digits
  m_check_digits : mg "check_digits" = some (.ref f_check_digits)
  b_check_digits : Binds K fd_check_digits ["numbers"] []
  f_divisors_of : Addr
  fd_divisors_of : FuncData
  F_divisors_of : Fun K "divisors_of" "divisors_of" s_divisors_of f_divisors_of fd_divisors_of
  m_divisors_of : mg "divisors_of" = some (.ref f_divisors_of)
  b_divisors_of : Binds K fd_divisors_of ["number"] []
  f_factored : Addr
  fd_factored : FuncData
  F_factored : Fun K "factored" "factored" s_factored f_factored fd_factored
  m_factored : mg "factored" = some (.ref f_factored)
  b_factored : Binds K fd_factored ["number"] []
  f_is_prime : Addr
  fd_is_prime : FuncData
  F_is_prime : Fun K "is_prime" "is_prime" s_is_prime f_is_prime fd_is_prime
  m_is_prime : mg "is_prime" = some (.ref f_is_prime)
  b_is_prime : Binds K fd_is_prime ["value"] []
  f_index_of : Addr
  fd_index_of : FuncData
  F_index_of : Fun K "index_of" "index_of" s_index_of f_index_of fd_index_of
  m_index_of : mg "index_of" = some (.ref f_index_of)
  b_index_of : Binds K fd_index_of ["level"] []
  f_symbol : Addr
  fd_symbol : FuncData
  F_symbol : Fun K "symbol" "symbol" s_symbol f_symbol fd_symbol
  m_symbol : mg "symbol" = some (.ref f_symbol)
  b_symbol : Binds K fd_symbol ["first", "prime"] []
  f_is_product : Addr
  fd_is_product : FuncData
  F_is_product : Fun K "is_product" "is_product" s_is_product f_is_product fd_is_product
  m_is_product : mg "is_product" = some (.ref f_is_product)
  b_is_product : Binds K fd_is_product ["value"] []
  f_is_step_power : Addr
  fd_is_step_power : FuncData
  F_is_step_power : Fun K "is_step_power" "is_step_power" s_is_step_power f_is_step_power fd_is_step_power
  m_is_step_power : mg "is_step_power" = some (.ref f_is_step_power)
  b_is_step_power : Binds K fd_is_step_power ["value"] []
  f_check_product : Addr
  fd_check_product : FuncData
  F_check_product : Fun K "check_product" "check_product" s_check_product f_check_product fd_check_product
  m_check_product : mg "check_product" = some (.ref f_check_product)
  b_check_product : Binds K fd_check_product ["product"] []
  f_odd_primes : Addr
  fd_odd_primes : FuncData
  F_odd_primes : Fun K "odd_primes" "odd_primes" s_odd_primes f_odd_primes fd_odd_primes
  m_odd_primes : mg "odd_primes" = some (.ref f_odd_primes)
  b_odd_primes : Binds K fd_odd_primes ["number"] []
  f_power_sum : Addr
  fd_power_sum : FuncData
  F_power_sum : Fun K "power_sum" "power_sum" s_power_sum f_power_sum fd_power_sum
  m_power_sum : mg "power_sum" = some (.ref f_power_sum)
  b_power_sum : Binds K fd_power_sum ["product"] []
  f_shift_sum : Addr
  fd_shift_sum : FuncData
  F_shift_sum : Fun K "shift_sum" "shift_sum" s_shift_sum f_shift_sum fd_shift_sum
  m_shift_sum : mg "shift_sum" = some (.ref f_shift_sum)
  b_shift_sum : Binds K fd_shift_sum ["product"] []
  f_turned_sum : Addr
  fd_turned_sum : FuncData
  F_turned_sum : Fun K "turned_sum" "turned_sum" s_turned_sum f_turned_sum fd_turned_sum
  m_turned_sum : mg "turned_sum" = some (.ref f_turned_sum)
  b_turned_sum : Binds K fd_turned_sum ["product", "level"] []
  f_has_steps_of : Addr
  fd_has_steps_of : FuncData
  F_has_steps_of : Fun K "has_steps_of" "has_steps_of" s_has_steps_of f_has_steps_of fd_has_steps_of
  m_has_steps_of : mg "has_steps_of" = some (.ref f_has_steps_of)
  b_has_steps_of : Binds K fd_has_steps_of ["product", "level"] []
  f_lacking : Addr
  fd_lacking : FuncData
  F_lacking : Fun K "lacking" "lacking" s_lacking f_lacking fd_lacking
  m_lacking : mg "lacking" = some (.ref f_lacking)
  b_lacking : Binds K fd_lacking ["product", "level"] []
  f_check_fits : Addr
  fd_check_fits : FuncData
  F_check_fits : Fun K "check_fits" "check_fits" s_check_fits f_check_fits fd_check_fits
  m_check_fits : mg "check_fits" = some (.ref f_check_fits)
  b_check_fits : Binds K fd_check_fits ["product", "level"] []
  f_kind_told : Addr
  fd_kind_told : FuncData
  F_kind_told : Fun K "kind_told" "kind_told" s_kind_told f_kind_told fd_kind_told
  m_kind_told : mg "kind_told" = some (.ref f_kind_told)
  b_kind_told : Binds K fd_kind_told ["product"] []
  f_width_at : Addr
  fd_width_at : FuncData
  F_width_at : Fun K "width_at" "width_at" s_width_at f_width_at fd_width_at
  m_width_at : mg "width_at" = some (.ref f_width_at)
  b_width_at : Binds K fd_width_at ["level", "end"] []
  f_order_part : Addr
  fd_order_part : FuncData
  F_order_part : Fun K "order_part" "order_part" s_order_part f_order_part fd_order_part
  m_order_part : mg "order_part" = some (.ref f_order_part)
  b_order_part : Binds K fd_order_part ["product", "level", "end"] []
  f_order_parts : Addr
  fd_order_parts : FuncData
  F_order_parts : Fun K "order_parts" "order_parts" s_order_parts f_order_parts fd_order_parts
  m_order_parts : mg "order_parts" = some (.ref f_order_parts)
  b_order_parts : Binds K fd_order_parts ["product", "level"] []
  f_row_by_powers : Addr
  fd_row_by_powers : FuncData
  F_row_by_powers : Fun K "row_by_powers" "row_by_powers" s_row_by_powers f_row_by_powers fd_row_by_powers
  m_row_by_powers : mg "row_by_powers" = some (.ref f_row_by_powers)
  b_row_by_powers : Binds K fd_row_by_powers ["powers", "many"] []
  f_sums_of : Addr
  fd_sums_of : FuncData
  F_sums_of : Fun K "sums_of" "sums_of" s_sums_of f_sums_of fd_sums_of
  m_sums_of : mg "sums_of" = some (.ref f_sums_of)
  b_sums_of : Binds K fd_sums_of ["powers", "many"] []
  f_numbers_of : Addr
  fd_numbers_of : FuncData
  F_numbers_of : Fun K "numbers_of" "numbers_of" s_numbers_of f_numbers_of fd_numbers_of
  m_numbers_of : mg "numbers_of" = some (.ref f_numbers_of)
  b_numbers_of : Binds K fd_numbers_of ["product", "many"] []
  f_placed_row : Addr
  fd_placed_row : FuncData
  F_placed_row : Fun K "placed_row" "placed_row" s_placed_row f_placed_row fd_placed_row
  m_placed_row : mg "placed_row" = some (.ref f_placed_row)
  b_placed_row : Binds K fd_placed_row ["level", "product", "many"] []
  f_check_carried : Addr
  fd_check_carried : FuncData
  F_check_carried : Fun K "check_carried" "check_carried" s_check_carried f_check_carried fd_check_carried
  m_check_carried : mg "check_carried" = some (.ref f_check_carried)
  b_check_carried : Binds K fd_check_carried ["level", "product"] []
  f_is_carried : Addr
  fd_is_carried : FuncData
  F_is_carried : Fun K "is_carried" "is_carried" s_is_carried f_is_carried fd_is_carried
  m_is_carried : mg "is_carried" = some (.ref f_is_carried)
  b_is_carried : Binds K fd_is_carried ["level", "product"] []
  f_first_placed : Addr
  fd_first_placed : FuncData
  F_first_placed : Fun K "first_placed" "first_placed" s_first_placed f_first_placed fd_first_placed
  m_first_placed : mg "first_placed" = some (.ref f_first_placed)
  b_first_placed : Binds K fd_first_placed ["product"] []
  f_placed_numbers : Addr
  fd_placed_numbers : FuncData
  F_placed_numbers : Fun K "placed_numbers" "placed_numbers" s_placed_numbers f_placed_numbers fd_placed_numbers
  m_placed_numbers : mg "placed_numbers" = some (.ref f_placed_numbers)
  b_placed_numbers : Binds K fd_placed_numbers ["product", "many"] []
  f_is_serving_prime : Addr
  fd_is_serving_prime : FuncData
  F_is_serving_prime : Fun K "is_serving_prime" "is_serving_prime" s_is_serving_prime f_is_serving_prime fd_is_serving_prime
  m_is_serving_prime : mg "is_serving_prime" = some (.ref f_is_serving_prime)
  b_is_serving_prime : Binds K fd_is_serving_prime ["level", "prime"] []
  f_check_prime : Addr
  fd_check_prime : FuncData
  F_check_prime : Fun K "check_prime" "check_prime" s_check_prime f_check_prime fd_check_prime
  m_check_prime : mg "check_prime" = some (.ref f_check_prime)
  b_check_prime : Binds K fd_check_prime ["level", "prime"] []
  f_carried_row : Addr
  fd_carried_row : FuncData
  F_carried_row : Fun K "carried_row" "carried_row" s_carried_row f_carried_row fd_carried_row
  m_carried_row : mg "carried_row" = some (.ref f_carried_row)
  b_carried_row : Binds K fd_carried_row ["level", "product", "prime", "many"] []
  f_carried_numbers : Addr
  fd_carried_numbers : FuncData
  F_carried_numbers : Fun K "carried_numbers" "carried_numbers" s_carried_numbers f_carried_numbers fd_carried_numbers
  m_carried_numbers : mg "carried_numbers" = some (.ref f_carried_numbers)
  b_carried_numbers : Binds K fd_carried_numbers ["product", "placed", "prime", "many"] []
  f_carried_by : Addr
  fd_carried_by : FuncData
  F_carried_by : Fun K "carried_by" "carried_by" s_carried_by f_carried_by fd_carried_by
  m_carried_by : mg "carried_by" = some (.ref f_carried_by)
  b_carried_by : Binds K fd_carried_by ["product", "prime"] []
  f_symbol_at : Addr
  fd_symbol_at : FuncData
  F_symbol_at : Fun K "symbol_at" "symbol_at" s_symbol_at f_symbol_at fd_symbol_at
  m_symbol_at : mg "symbol_at" = some (.ref f_symbol_at)
  b_symbol_at : Binds K fd_symbol_at ["level", "product", "prime"] []
  f_places_asked : Addr
  fd_places_asked : FuncData
  F_places_asked : Fun K "places_asked" "places_asked" s_places_asked f_places_asked fd_places_asked
  m_places_asked : mg "places_asked" = some (.ref f_places_asked)
  b_places_asked : Binds K fd_places_asked ["level", "product"] []
  f_last_asked : Addr
  fd_last_asked : FuncData
  F_last_asked : Fun K "last_asked" "last_asked" s_last_asked f_last_asked fd_last_asked
  m_last_asked : mg "last_asked" = some (.ref f_last_asked)
  b_last_asked : Binds K fd_last_asked ["level", "product"] []
  f_decided_multiple : Addr
  fd_decided_multiple : FuncData
  F_decided_multiple : Fun K "decided_multiple" "decided_multiple" s_decided_multiple f_decided_multiple fd_decided_multiple
  m_decided_multiple : mg "decided_multiple" = some (.ref f_decided_multiple)
  b_decided_multiple : Binds K fd_decided_multiple ["level", "product", "prime"] []
  f_check_asked : Addr
  fd_check_asked : FuncData
  F_check_asked : Fun K "check_asked" "check_asked" s_check_asked f_check_asked fd_check_asked
  m_check_asked : mg "check_asked" = some (.ref f_check_asked)
  b_check_asked : Binds K fd_check_asked ["level", "product", "prime"] []
  f_check_places : Addr
  fd_check_places : FuncData
  F_check_places : Fun K "check_places" "check_places" s_check_places f_check_places fd_check_places
  m_check_places : mg "check_places" = some (.ref f_check_places)
  b_check_places : Binds K fd_check_places ["level", "product", "prime"] []
  f_placed_to : Addr
  fd_placed_to : FuncData
  F_placed_to : Fun K "placed_to" "placed_to" s_placed_to f_placed_to fd_placed_to
  m_placed_to : mg "placed_to" = some (.ref f_placed_to)
  b_placed_to : Binds K fd_placed_to ["level", "product", "prime"] []
  f_decided : Addr
  fd_decided : FuncData
  F_decided : Fun K "decided" "decided" s_decided f_decided fd_decided
  m_decided : mg "decided" = some (.ref f_decided)
  b_decided : Binds K fd_decided ["level", "product", "prime", "placed"] []
  f_first_beside : Addr
  fd_first_beside : FuncData
  F_first_beside : Fun K "first_beside" "first_beside" s_first_beside f_first_beside fd_first_beside
  m_first_beside : mg "first_beside" = some (.ref f_first_beside)
  b_first_beside : Binds K fd_first_beside ["placed", "carried", "number"] []
  f_is_multiple : Addr
  fd_is_multiple : FuncData
  F_is_multiple : Fun K "is_multiple" "is_multiple" s_is_multiple f_is_multiple fd_is_multiple
  m_is_multiple : mg "is_multiple" = some (.ref f_is_multiple)
  b_is_multiple : Binds K fd_is_multiple ["level", "product", "prime", "number"] []
  f_law_pot : Addr
  fd_law_pot : FuncData
  F_law_pot : Fun K "_law_pot" "_law_pot" s_law_pot f_law_pot fd_law_pot
  m_law_pot : mg "_law_pot" = some (.ref f_law_pot)
  b_law_pot : Binds K fd_law_pot ["script", "k"] []
  f_law_draw : Addr
  fd_law_draw : FuncData
  F_law_draw : Fun K "_law_draw" "_law_draw" s_law_draw f_law_draw fd_law_draw
  m_law_draw : mg "_law_draw" = some (.ref f_law_draw)
  b_law_draw : Binds K fd_law_draw ["pot", "many"] []
  f_law_pick : Addr
  fd_law_pick : FuncData
  F_law_pick : Fun K "_law_pick" "_law_pick" s_law_pick f_law_pick fd_law_pick
  m_law_pick : mg "_law_pick" = some (.ref f_law_pick)
  b_law_pick : Binds K fd_law_pick ["pot", "some"] []
  f_law_primes : Addr
  fd_law_primes : FuncData
  F_law_primes : Fun K "_law_primes" "_law_primes" s_law_primes f_law_primes fd_law_primes
  m_law_primes : mg "_law_primes" = some (.ref f_law_primes)
  b_law_primes : Binds K fd_law_primes ["number"] []
  f_law_some : Addr
  fd_law_some : FuncData
  F_law_some : Fun K "_law_some" "_law_some" s_law_some f_law_some fd_law_some
  m_law_some : mg "_law_some" = some (.ref f_law_some)
  b_law_some : Binds K fd_law_some [] []
  f_law_drawn : Addr
  fd_law_drawn : FuncData
  F_law_drawn : Fun K "_law_drawn" "_law_drawn" s_law_drawn f_law_drawn fd_law_drawn
  m_law_drawn : mg "_law_drawn" = some (.ref f_law_drawn)
  b_law_drawn : Binds K fd_law_drawn ["pot"] []
  f_law_weight : Addr
  fd_law_weight : FuncData
  F_law_weight : Fun K "_law_weight" "_law_weight" s_law_weight f_law_weight fd_law_weight
  m_law_weight : mg "_law_weight" = some (.ref f_law_weight)
  b_law_weight : Binds K fd_law_weight ["product"] []
  f_law_shift : Addr
  fd_law_shift : FuncData
  F_law_shift : Fun K "_law_shift" "_law_shift" s_law_shift f_law_shift fd_law_shift
  m_law_shift : mg "_law_shift" = some (.ref f_law_shift)
  b_law_shift : Binds K fd_law_shift ["product"] []
  f_law_sign : Addr
  fd_law_sign : FuncData
  F_law_sign : Fun K "_law_sign" "_law_sign" s_law_sign f_law_sign fd_law_sign
  m_law_sign : mg "_law_sign" = some (.ref f_law_sign)
  b_law_sign : Binds K fd_law_sign ["level", "product"] []
  f_law_symbol : Addr
  fd_law_symbol : FuncData
  F_law_symbol : Fun K "_law_symbol" "_law_symbol" s_law_symbol f_law_symbol fd_law_symbol
  m_law_symbol : mg "_law_symbol" = some (.ref f_law_symbol)
  b_law_symbol : Binds K fd_law_symbol ["number", "prime"] []
  f_law_placed : Addr
  fd_law_placed : FuncData
  F_law_placed : Fun K "_law_placed" "_law_placed" s_law_placed f_law_placed fd_law_placed
  m_law_placed : mg "_law_placed" = some (.ref f_law_placed)
  b_law_placed : Binds K fd_law_placed ["product", "many"] []
  f_law_carried : Addr
  fd_law_carried : FuncData
  F_law_carried : Fun K "_law_carried" "_law_carried" s_law_carried f_law_carried fd_law_carried
  m_law_carried : mg "_law_carried" = some (.ref f_law_carried)
  b_law_carried : Binds K fd_law_carried ["product", "sign", "prime", "placed", "many"] []
  f_law_asked : Addr
  fd_law_asked : FuncData
  F_law_asked : Fun K "_law_asked" "_law_asked" s_law_asked f_law_asked fd_law_asked
  m_law_asked : mg "_law_asked" = some (.ref f_law_asked)
  b_law_asked : Binds K fd_law_asked ["level", "product"] []
  f_law_due : Addr
  fd_law_due : FuncData
  F_law_due : Fun K "_law_due" "_law_due" s_law_due f_law_due fd_law_due
  m_law_due : mg "_law_due" = some (.ref f_law_due)
  b_law_due : Binds K fd_law_due ["placed", "carried", "shift", "bound"] []
  f_law_right : Addr
  fd_law_right : FuncData
  F_law_right : Fun K "_law_right" "_law_right" s_law_right f_law_right fd_law_right
  m_law_right : mg "_law_right" = some (.ref f_law_right)
  b_law_right : Binds K fd_law_right ["pot"] []
  f_law : Addr
  fd_law : FuncData
  F_law : Fun K "law" "law" s_law f_law fd_law
  m_law : mg "law" = some (.ref f_law)
  b_law : Binds K fd_law ["script"] []
  kb_places_asked_0 : KBinds K fd_places_asked ["level", "product"] ["product", "level"] (fun us ws => match us, ws with | [], [ws0, ws1] => [ws1, ws0] | _, _ => []) (fun us ws => match us, ws with | [], [ws0, ws1] => [ws1, ws0] | _, _ => [])
  kb_decided_multiple_1 : KBinds K fd_decided_multiple ["level", "product", "prime"] ["prime", "product", "level"] (fun us ws => match us, ws with | [], [ws0, ws1, ws2] => [ws2, ws1, ws0] | _, _ => []) (fun us ws => match us, ws with | [], [ws0, ws1, ws2] => [ws2, ws1, ws0] | _, _ => [])
  kb_is_multiple_2 : KBinds K fd_is_multiple ["level", "product", "prime", "number"] ["number", "prime", "product", "level"] (fun us ws => match us, ws with | [], [ws0, ws1, ws2, ws3] => [ws3, ws2, ws1, ws0] | _, _ => []) (fun us ws => match us, ws with | [], [ws0, ws1, ws2, ws3] => [ws3, ws2, ws1, ws0] | _, _ => [])
  z_abs : mg "abs" = none
  z_all : mg "all" = none
  z_any : mg "any" = none
  z_bool : mg "bool" = none
  z_dict : mg "dict" = none
  z_divmod : mg "divmod" = none
  z_enumerate : mg "enumerate" = none
  z_int : mg "int" = none
  z_isinstance : mg "isinstance" = none
  z_len : mg "len" = none
  z_list : mg "list" = none
  z_max : mg "max" = none
  z_min : mg "min" = none
  z_range : mg "range" = none
  z_repr : mg "repr" = none
  z_sorted : mg "sorted" = none
  z_str : mg "str" = none
  z_sum : mg "sum" = none
  z_tuple : mg "tuple" = none
  z_zip : mg "zip" = none
  m_gcd : mg "gcd" = some (.builtin "math.gcd")
  m_isqrt : mg "isqrt" = some (.builtin "math.isqrt")
section
variable {P : Program} {w : World} {K : PySem.W.Frag} {mg : Str → Option Value} {base : Heap}

def F_law_draw : Pot → List D → Option (D × Pot) := fun π ds => match π, ds with
  | [p0, p1], [.int m] => if 0 < m ∧ m < 1073741824 then (if 0 < p0 then some (.int (p0 % m), [p0 / m, p1]) else some (.int ((((p1 * 39373 + 1423) % 2147483587) * ((p1 * 39373 + 1423) % 2147483587) % 2147483563 / 17) % m), [p0, (p1 * 39373 + 1423) % 2147483587])) else none
  | _, _ => none
theorem ok_law_draw (T : Tx K mg) : FnOk P w K mg base CX0 1 T.f_law_draw T.fd_law_draw ["pot", "many"] (SpP K false [false] F_law_draw) := by
  refine T.F_law_draw.ok sc_law_draw (fun vs H Q E h => ?_) (fun cdv A outer s H vs Q E hr h => ?_)
  · obtain ⟨S, a, ws, π, ds, d, π', rfl, _, _, _, ar, _⟩ := h
    show ws.length + 1 = _
    rw [ar.len.1]; rfl
  · obtain ⟨S, a, ws, π, ds, d, π', rfl, al, sa, hp, ar, e, q⟩ := h
    unfold F_law_draw at e
    split at e
    · rename_i p0 p1 m
      split at e
      · rename_i c
        obtain ⟨m0, m1⟩ := c
        obtain ⟨v, rfl, hv⟩ : ∃ v, ws = [v] ∧ v = .int m := by
          match ws, ar with
          | [v], ar =>
            have h1 := ar.1
            rw [if_neg (by decide)] at h1
            cases h1
            exact ⟨_, rfl, rfl⟩
        subst hv
        have hp : H a = some (.lst [.int p0, .int p1]) := hp
        refine ⟨_, (pss_cons (ps_if (pt_cmpR op_gt (pe_ix ix_list (pv 0) pe_int (fun _ _ => rfl)) pe_int (nomark _)) (pss_cons (ps_asg (pe_callB call_divmod (by rfl) T.z_divmod (by decide +kernel) (pa_cons (pe_ix ix_list (pv 0) pe_int (fun _ _ => rfl)) (pa_cons (pv 1) pa_nil))) (pg_tup rfl (pgs_cons (pg_sub (pv 0) pe_int set_list) (pgs_cons (pg_name (i := 2) sc_law_draw.nd rfl (.inl rfl)) pgs_nil))))
  (pss_one (ps_ret (pv 2)))) pss_nil)
  (pss_cons (ps_asg (pe_op op_mod (pe_callTy call_int1 (by rfl) T.z_int (by decide +kernel) (pa_cons (pe_op op_add (pe_op op_mul (pe_ix ix_list (pv 0) pe_int (fun _ _ => rfl)) pe_int) pe_int) pa_nil)) pe_int) (pg_sub (pv 0) pe_int set_list))
  (pss_one (ps_ret (pe_op op_mod (pe_callTy call_int1 (by rfl) T.z_int (by decide +kernel) (pa_cons (pe_op op_fdiv (pe_op op_mod (pe_callTy call_int1 (by rfl) T.z_int (by decide +kernel) (pa_cons (pe_op op_mul (pe_ix ix_list (pv 0) pe_int (fun _ _ => rfl)) (pe_ix ix_list (pv 0) pe_int (fun _ _ => rfl))) pa_nil)) pe_int) pe_int) pa_nil)) (pv 1)))))), ?_⟩
        refine ⟨.ref a, rfl, a, _, 0, .int p0, rfl, rfl, sqL hp, rfl, p0, 0, rfl, rfl, _, rfl, ite2 (fun c => ?_) (fun c => ?_)⟩
        · have c0 : 0 < p0 := of_decide_eq_true c
          rw [if_pos c0] at e
          cases e
          refine ⟨.ref a, rfl, a, _, 0, .int p0, rfl, rfl, sqL hp, rfl, .int m, rfl, p0, m, rfl, ⟨m0, m1⟩, fun t nt => ?_⟩
          have nta : a ≠ t := ne_of_none hp nt
          have hp1 : (upd H t (.tup [.int (p0 / m), .int (p0 % m)])) a = some (.lst [.int p0, .int p1]) := by rw [upd_ne nta]; exact hp
          refine ⟨t, _, rfl, sqT upd_same, rfl, .int (p0 / m), _, rfl, ?_⟩
          refine ⟨.ref a, rfl, a, _, 0, 0, rfl, rfl, hp1, rfl, ?_⟩
          refine ⟨.int (p0 % m), _, rfl, rfl, ?_⟩
          refine ⟨_, rfl, ?_⟩
          refine q _ _ ?_ upd_same ?_
          · exact (Kp.new nt).bt.trans Bt.upd
          · rw [if_neg (by decide)]; exact .int _
        · have c0 : ¬ 0 < p0 := fun z => c (decide_eq_true z)
          rw [if_neg c0] at e
          cases e
          refine ⟨.ref a, rfl, a, _, 1, .int p1, rfl, rfl, sqL hp, rfl, p1, _, rfl, rfl, .inr ⟨by decide, by decide⟩, _, _, rfl, rfl, .inl ⟨_, rfl, _, _, rfl, rfl, (show (0 : Int) < 2147483587 by decide), ?_⟩⟩
          have b0 := Int.emod_nonneg (p1 * 39373 + 1423) (show (2147483587 : Int) ≠ 0 by decide)
          have b1 := Int.emod_lt_of_pos (p1 * 39373 + 1423) (show (0 : Int) < 2147483587 by decide)
          refine ⟨.ref a, rfl, a, _, 1, 1, rfl, rfl, hp, rfl, ?_⟩
          have hp2 : (upd H a (.lst [.int p0, .int ((p1 * 39373 + 1423) % 2147483587)])) a = some (.lst [.int p0, .int ((p1 * 39373 + 1423) % 2147483587)]) := upd_same
          refine ⟨.ref a, rfl, a, _, 1, _, rfl, rfl, sqL hp2, rfl, .ref a, rfl, a, _, 1, _, rfl, rfl, sqL hp2, rfl, _, _, rfl, rfl, .inl ⟨by omega, by omega⟩, .inl ⟨_, rfl, _, _, rfl, rfl, (show (0 : Int) < 2147483563 by decide), ?_⟩⟩
          refine ⟨_, _, rfl, rfl, ⟨by decide, by decide⟩, .inl ⟨_, rfl, .int m, rfl, _, m, rfl, rfl, m0, ?_⟩⟩
          refine q _ _ Bt.upd upd_same ?_
          rw [if_neg (by decide)]; exact .int _
      · cases e
    · cases e

/-- the pot as the law keeps it -/
def PotOk (π : Pot) : Prop := ∃ p0 p1 : Int, π = [p0, p1] ∧ 0 ≤ p0
theorem draw_ok {π : Pot} (h : PotOk π) {m : Int} (m0 : 0 < m) (m1 : m < 1073741824) : ∃ d π', F_law_draw π [.int m] = some (.int d, π') ∧ 0 ≤ d ∧ d < m ∧ PotOk π' := by
  obtain ⟨p0, p1, rfl, h0⟩ := h
  unfold F_law_draw
  by_cases c : 0 < p0
  · refine ⟨p0 % m, [p0 / m, p1], ?_, Int.emod_nonneg _ (by omega), Int.emod_lt_of_pos _ m0, ⟨_, _, rfl, Int.ediv_nonneg h0 (by omega)⟩⟩
    simp only [if_pos (show 0 < m ∧ m < 1073741824 from ⟨m0, m1⟩), if_pos c]
  · refine ⟨(((p1 * 39373 + 1423) % 2147483587) * ((p1 * 39373 + 1423) % 2147483587) % 2147483563 / 17) % m, [p0, ((p1 * 39373 + 1423) % 2147483587)], ?_, Int.emod_nonneg _ (by omega), Int.emod_lt_of_pos _ m0, ⟨_, _, rfl, h0⟩⟩
    simp only [if_pos (show 0 < m ∧ m < 1073741824 from ⟨m0, m1⟩), if_neg c]
def B_is_integer : Sx :=
  (sRet (xAndV (xIsi "int" (xBo 0)) (xUn notF (xIsi "bool" (xBo 0)))))
def F_is_integer : List D → Option D := runF 0 [false] B_is_integer

theorem ok_is_integer (T : Tx K mg) : FnOk P w K mg base CX0 1 T.f_is_integer T.fd_is_integer ["value"] (SpF K false [false] F_is_integer) := by

  refine T.F_is_integer.ok sc_is_integer (fun vs H Q E h => ?_) (fun cdv A outer s H vs Q E hr h => ?_)
  · obtain ⟨S, pt, ds, d, _, _, ar, _⟩ := h
    rw [ar.len.1]; rfl
  · exact ⟨_, (pss_one (ps_ret (pe_and (pe_callB call_isi (by rfl) T.z_isinstance (by decide +kernel) (pa_cons (pv 0) (pa_cons (pe_bltn (v := .ty "int") (by rfl) T.z_int (by decide +kernel) rfl) pa_nil))) (pe_one (pe_not (pe_callB call_isi (by rfl) T.z_isinstance (by decide +kernel) (pa_cons (pv 0) (pa_cons (pe_bltn (v := .ty "bool") (by rfl) T.z_bool (by decide +kernel) rfl) pa_nil)))))))), SF.spF (b := B_is_integer) (n := 0) (N := ["value"]) (sf_ret (ef_andV (EF.bf (ef_isi isi_int (bf_var 0))) (ef_notV (EF.bf (ef_isi isi_bool (bf_var 0)))))) rfl h (fun z => nomatch z)⟩
def B_is_within : Sx :=
  (sRet (xAndV (xCb F_is_integer (aCons (xVar 0) aNil)) (xChain (cmpF fun i j => decide (i ≤ j)) (cmpF fun i j => decide (i ≤ j)) (xBo 1) (xBo 0) (xBo 2))))
def F_is_within : List D → Option D := runF 0 [false, false, false] B_is_within

theorem ok_is_within (T : Tx K mg) : FnOk P w K mg base CX0 2 T.f_is_within T.fd_is_within ["value", "low", "high"] (SpF K false [false, false, false] F_is_within) := by
  have G_is_integer := ok_is_integer (P := P) (w := w) (base := base) T
  refine T.F_is_within.ok sc_is_within (fun vs H Q E h => ?_) (fun cdv A outer s H vs Q E hr h => ?_)
  · obtain ⟨S, pt, ds, d, _, _, ar, _⟩ := h
    rw [ar.len.1]; rfl
  · exact ⟨_, (pss_one (ps_ret (pe_and (pe_call G_is_integer (hr.mono (by decide)) (by rfl) T.m_is_integer T.F_is_integer.kp T.b_is_integer .nil pass0 (pa_cons (pv 0) pa_nil)) (pe_one (pe_chain op_le op_le (pv 1) (pv 0) (pv 2)))))), SF.spF (b := B_is_within) (n := 0) (N := ["value", "low", "high"]) (sf_ret (ef_andV (EF.bf (ef_call (ga_strict (ef_var 0) ga_nil))) (ef_chain of_cmp of_cmp (bf_var 1) (bf_var 0) (bf_var 2)))) rfl h (fun z => nomatch z)⟩
def B_is_tagged : Sx :=
  (sRet (xAndV (xIsi "tuple" (xBo 0)) (xAndV (xOp (eqF false) (xCb lenF (aCons (xBo 0) aNil)) (xBo 2)) (xAndV (xIsi "str" (xOp ixF (xBo 0) (xC (.int 0)))) (xOp (eqF false) (xOp ixF (xBo 0) (xC (.int 0))) (xBo 1))))))
def F_is_tagged : List D → Option D := runF 0 [false, false, false] B_is_tagged

theorem ok_is_tagged (T : Tx K mg) : FnOk P w K mg base CX0 1 T.f_is_tagged T.fd_is_tagged ["value", "word", "length"] (SpF K false [false, false, false] F_is_tagged) := by

  refine T.F_is_tagged.ok sc_is_tagged (fun vs H Q E h => ?_) (fun cdv A outer s H vs Q E hr h => ?_)
  · obtain ⟨S, pt, ds, d, _, _, ar, _⟩ := h
    rw [ar.len.1]; rfl
  · exact ⟨_, (pss_one (ps_ret (pe_and (pe_callB call_isi (by rfl) T.z_isinstance (by decide +kernel) (pa_cons (pv 0) (pa_cons (pe_bltn (v := .ty "tuple") (by rfl) T.z_tuple (by decide +kernel) rfl) pa_nil))) (pe_and (pe_cmpR (op_eqA hr.units) (pe_callB call_len (by rfl) T.z_len (by decide +kernel) (pa_cons (pv 0) pa_nil)) (pv 2) (nomark _)) (pe_and (pe_callB call_isi (by rfl) T.z_isinstance (by decide +kernel) (pa_cons (pe_ix ix_seq (pv 0) pe_int (fun _ _ => rfl)) (pa_cons (pe_bltn (v := .ty "str") (by rfl) T.z_str (by decide +kernel) rfl) pa_nil))) (pe_one (pe_cmpR (op_eqA hr.units) (pe_ix ix_seq (pv 0) pe_int (fun _ _ => rfl)) (pv 1) (nomark _)))))))), SF.spF (b := B_is_tagged) (n := 0) (N := ["value", "word", "length"]) (sf_ret (ef_andV (EF.bf (ef_isi isi_tuple (bf_var 0))) (ef_andV (EF.bf (ef_op of_eq (EF.bf (ef_cb cf_len (ab_cons (bf_var 0) ab_nil))) (bf_var 2))) (ef_andV (EF.bf (ef_isi isi_str (EF.bf (ef_op of_ix (bf_var 0) (EF.bf ef_int))))) (ef_op of_eq (EF.bf (ef_op of_ix (bf_var 0) (EF.bf ef_int))) (bf_var 1)))))) rfl h (fun z => nomatch z)⟩
def B_is_pair : Sx :=
  (sRet (xAndV (xIsi "tuple" (xBo 0)) (xOp (eqF false) (xCb lenF (aCons (xBo 0) aNil)) (xC (.int 2)))))
def F_is_pair : List D → Option D := runF 0 [false] B_is_pair

theorem ok_is_pair (T : Tx K mg) : FnOk P w K mg base CX0 1 T.f_is_pair T.fd_is_pair ["value"] (SpF K false [false] F_is_pair) := by

  refine T.F_is_pair.ok sc_is_pair (fun vs H Q E h => ?_) (fun cdv A outer s H vs Q E hr h => ?_)
  · obtain ⟨S, pt, ds, d, _, _, ar, _⟩ := h
    rw [ar.len.1]; rfl
  · exact ⟨_, (pss_one (ps_ret (pe_and (pe_callB call_isi (by rfl) T.z_isinstance (by decide +kernel) (pa_cons (pv 0) (pa_cons (pe_bltn (v := .ty "tuple") (by rfl) T.z_tuple (by decide +kernel) rfl) pa_nil))) (pe_one (pe_cmpR (op_eqA hr.units) (pe_callB call_len (by rfl) T.z_len (by decide +kernel) (pa_cons (pv 0) pa_nil)) pe_int (nomark _)))))), SF.spF (b := B_is_pair) (n := 0) (N := ["value"]) (sf_ret (ef_andV (EF.bf (ef_isi isi_tuple (bf_var 0))) (ef_op of_eq (EF.bf (ef_cb cf_len (ab_cons (bf_var 0) ab_nil))) (EF.bf ef_int)))) rfl h (fun z => nomatch z)⟩
def B_is_rising : Sx :=
  (sRet (xCb allF (aCons (xLc (iZp (xLv 0) (xSl cutA (xBo 0) (xPo (xC (.int 1))) xPn)) (gT 2 (gsC (gN 1) (gsC (gN 2) gsN))) xYes (xOp (cmpF fun i j => decide (i < j)) (xBo 1) (xBo 2)) [1, 2]) aNil)))
def F_is_rising : List D → Option D := runF 2 [false] B_is_rising

theorem ok_is_rising (T : Tx K mg) : FnOk P w K mg base CX0 1 T.f_is_rising T.fd_is_rising ["numbers"] (SpF K false [false] F_is_rising) := by

  refine T.F_is_rising.ok sc_is_rising (fun vs H Q E h => ?_) (fun cdv A outer s H vs Q E hr h => ?_)
  · obtain ⟨S, pt, ds, d, _, _, ar, _⟩ := h
    rw [ar.len.1]; rfl
  · exact ⟨_, (pss_one (ps_ret (pe_callB (cr_all rfl) (by rfl) T.z_all (by decide +kernel) (pa_cons (pe_lc (own := [("ahead", 1), ("behind", 2)]) (g := gTup K 2 (gCons (gName 1) (gCons (gName 2) (gNil)))) (tt := tYes) (by rfl) sc_is_rising.nd (RZ.pi_zipA (by rfl) T.z_zip (pa_cons (pv 0) (pa_cons (pe_slice sl_any (pv 0) (po_some pe_int) po_none) pa_nil))) (blkOk_by (own := [("ahead", 1), ("behind", 2)]) (N := ["numbers", "ahead", "behind"]) (sc := defScope s_is_rising) (by decide +kernel)) (fun _ _ _ _ _ => (pg_tup rfl (pgs_cons (pg_name (i := 1) sc_is_rising.nd rfl (.inl rfl)) (pgs_cons (pg_name (i := 2) sc_is_rising.nd rfl (.inl rfl)) pgs_nil)))) (fun _ _ _ _ _ => pts_nil) (fun _ _ _ _ _ => (pe_cmpR op_lt (pv 1) (pv 2) (nomark _)))) pa_nil)))), SF.spF (b := B_is_rising) (n := 2) (N := ["numbers", "ahead", "behind"]) (sf_ret (ef_cb cf_all (ab_cons (EF.bf (NF.ef (nf_lc (if_zip (yf_var 0) (EF.yf (ef_sl sf_any (bf_var 0) (pf_some (EF.bf ef_int)) pf_none))) (gf_tup (gsf_cons gf_name (gsf_cons gf_name (gsf_nil (vs := []))))) tf_yes (ef_op of_cmp (bf_var 1) (bf_var 2))))) ab_nil))) rfl h (fun z => nomatch z)⟩
def B_check_many : Sx :=
  (sIf (xNot (xT (xCb F_is_within (aCons (xVar 0) (aCons (xC (.int 0)) (aCons (xVar 1) aNil)))))) sNever sNext)
def F_check_many : List D → Option D := runF 0 [false, false] B_check_many

theorem ok_check_many (T : Tx K mg) : FnOk P w K mg base CX0 3 T.f_check_many T.fd_check_many ["many", "most"] (SpF K false [false, false] F_check_many) := by
  have G_is_within := ok_is_within (P := P) (w := w) (base := base) T
  refine T.F_check_many.ok sc_check_many (fun vs H Q E h => ?_) (fun cdv A outer s H vs Q E hr h => ?_)
  · obtain ⟨S, pt, ds, d, _, _, ar, _⟩ := h
    rw [ar.len.1]; rfl
  · exact ⟨_, (pss_one (ps_if (pt_not (pt_val (pe_call G_is_within (hr.mono (by decide)) (by rfl) T.m_is_within T.F_is_within.kp T.b_is_within .nil pass0 (pa_cons (pv 0) (pa_cons pe_int (pa_cons (pv 1) pa_nil)))))) (pss_one ps_never) pss_nil)), SF.spF (b := B_check_many) (n := 0) (N := ["many", "most"]) (sf_if (tf_not (tf_test (EF.bf (ef_call (ga_strict (ef_var 0) (ga_strict ef_int (ga_strict (ef_var 1) ga_nil))))))) sf_never sf_next) rfl h (fun z => nomatch z)⟩
def B_check_number : Sx :=
  (sIf (xNot (xT (xCb F_is_within (aCons (xVar 0) (aCons (xVar 1) (aCons (xVar 2) aNil)))))) sNever sNext)
def F_check_number : List D → Option D := runF 0 [false, false, false] B_check_number

theorem ok_check_number (T : Tx K mg) : FnOk P w K mg base CX0 3 T.f_check_number T.fd_check_number ["number", "low", "high"] (SpF K false [false, false, false] F_check_number) := by
  have G_is_within := ok_is_within (P := P) (w := w) (base := base) T
  refine T.F_check_number.ok sc_check_number (fun vs H Q E h => ?_) (fun cdv A outer s H vs Q E hr h => ?_)
  · obtain ⟨S, pt, ds, d, _, _, ar, _⟩ := h
    rw [ar.len.1]; rfl
  · exact ⟨_, (pss_one (ps_if (pt_not (pt_val (pe_call G_is_within (hr.mono (by decide)) (by rfl) T.m_is_within T.F_is_within.kp T.b_is_within .nil pass0 (pa_cons (pv 0) (pa_cons (pv 1) (pa_cons (pv 2) pa_nil)))))) (pss_one ps_never) pss_nil)), SF.spF (b := B_check_number) (n := 0) (N := ["number", "low", "high"]) (sf_if (tf_not (tf_test (EF.bf (ef_call (ga_strict (ef_var 0) (ga_strict (ef_var 1) (ga_strict (ef_var 2) ga_nil))))))) sf_never sf_next) rfl h (fun z => nomatch z)⟩
def B_check_integer : Sx :=
  (sIf (xNot (xT (xCb F_is_integer (aCons (xVar 0) aNil)))) sNever sNext)
def F_check_integer : List D → Option D := runF 0 [false] B_check_integer

theorem ok_check_integer (T : Tx K mg) : FnOk P w K mg base CX0 2 T.f_check_integer T.fd_check_integer ["number"] (SpF K false [false] F_check_integer) := by
  have G_is_integer := ok_is_integer (P := P) (w := w) (base := base) T
  refine T.F_check_integer.ok sc_check_integer (fun vs H Q E h => ?_) (fun cdv A outer s H vs Q E hr h => ?_)
  · obtain ⟨S, pt, ds, d, _, _, ar, _⟩ := h
    rw [ar.len.1]; rfl
  · exact ⟨_, (pss_one (ps_if (pt_not (pt_val (pe_call G_is_integer (hr.mono (by decide)) (by rfl) T.m_is_integer T.F_is_integer.kp T.b_is_integer .nil pass0 (pa_cons (pv 0) pa_nil)))) (pss_one ps_never) pss_nil)), SF.spF (b := B_check_integer) (n := 0) (N := ["number"]) (sf_if (tf_not (tf_test (EF.bf (ef_call (ga_strict (ef_var 0) ga_nil))))) sf_never sf_next) rfl h (fun z => nomatch z)⟩
def B_check_level : Sx :=
  (sIf (xNot (xT (xCb F_is_within (aCons (xVar 0) (aCons (xC (.int 1)) (aCons (xC (.int 120)) aNil)))))) sNever sNext)
def F_check_level : List D → Option D := runF 0 [false] B_check_level

theorem ok_check_level (T : Tx K mg) : FnOk P w K mg base CX0 3 T.f_check_level T.fd_check_level ["level"] (SpF K false [false] F_check_level) := by
  have G_is_within := ok_is_within (P := P) (w := w) (base := base) T
  refine T.F_check_level.ok sc_check_level (fun vs H Q E h => ?_) (fun cdv A outer s H vs Q E hr h => ?_)
  · obtain ⟨S, pt, ds, d, _, _, ar, _⟩ := h
    rw [ar.len.1]; rfl
  · exact ⟨_, (pss_one (ps_if (pt_not (pt_val (pe_call G_is_within (hr.mono (by decide)) (by rfl) T.m_is_within T.F_is_within.kp T.b_is_within .nil pass0 (pa_cons (pv 0) (pa_cons pe_int (pa_cons pe_int pa_nil)))))) (pss_one ps_never) pss_nil)), SF.spF (b := B_check_level) (n := 0) (N := ["level"]) (sf_if (tf_not (tf_test (EF.bf (ef_call (ga_strict (ef_var 0) (ga_strict ef_int (ga_strict ef_int ga_nil))))))) sf_never sf_next) rfl h (fun z => nomatch z)⟩
def B_check_digits : Sx :=
  (sSeq (sAsg (xOp powF (xOp powF (xC (.int 10)) (xC (.int 50))) (xC (.int 8))) (gN 1))
  (sIf (xT (xCb anyF (aCons (xLc (iA (xLv 0)) (gN 2) xYes (xOp (cmpF fun i j => decide (j ≤ i)) (xCb absF (aCons (xBo 2) aNil)) (xBo 1)) [2]) aNil))) sNever sNext))
def F_check_digits : List D → Option D := runF 2 [true] B_check_digits

theorem ok_check_digits (T : Tx K mg) : FnOk P w K mg base CX0 1 T.f_check_digits T.fd_check_digits ["numbers"] (SpF K false [true] F_check_digits) := by

  refine T.F_check_digits.ok sc_check_digits (fun vs H Q E h => ?_) (fun cdv A outer s H vs Q E hr h => ?_)
  · obtain ⟨S, pt, ds, d, _, _, ar, _⟩ := h
    rw [ar.len.1]; rfl
  · exact ⟨_, (pss_cons (ps_set (i := 1) sc_check_digits.nd rfl (.inr rfl) (pe_op op_powX (pe_op op_powX pe_int pe_int) pe_int))
  (pss_one (ps_if (pt_val (pe_callB (cr_any rfl) (by rfl) T.z_any (by decide +kernel) (pa_cons (pe_lc (own := [("number", 2)]) (g := gName 2) (tt := tYes) (by rfl) sc_check_digits.nd (pi_any (pv 0)) (blkOk_by (own := [("number", 2)]) (N := ["numbers", "least_beyond", "number"]) (sc := defScope s_check_digits) (by decide +kernel)) (fun _ _ _ _ _ => pg_name (i := 2) sc_check_digits.nd rfl (.inl rfl)) (fun _ _ _ _ _ => pts_nil) (fun _ _ _ _ _ => (pe_cmpR op_ge (pe_callB call_abs (by rfl) T.z_abs (by decide +kernel) (pa_cons (pv 2) pa_nil)) (pv 1) (nomark _)))) pa_nil))) (pss_one ps_never) pss_nil))), SF.spF (b := B_check_digits) (n := 2) (N := ["numbers", "least_beyond", "number"]) (sf_seq (sf_asg (ef_op of_pow (EF.bf (ef_op of_pow (EF.bf ef_int) (EF.bf ef_int))) (EF.bf ef_int)) gf_name)
  (sf_if (tf_test (EF.bf (ef_cb cf_any (ab_cons (EF.bf (NF.ef (nf_lc (if_any (yf_var 0)) gf_name tf_yes (ef_op of_cmp (EF.bf (ef_cb cf_abs (ab_cons (bf_var 2) ab_nil))) (bf_var 1))))) ab_nil)))) sf_never sf_next)) rfl h (fun z => nomatch z)⟩
def B_divisors_of : Sx :=
  (sSeq (sDrop (xCb F_check_number (aCons (xVar 0) (aCons (xC (.int 1)) (aCons (xC (.int 1000000)) aNil)))))
  (sSeq (sAsg (xLc (iR (aCons (xC (.int 1)) (aCons (xOp addF (xCb isqrtF (aCons (xBo 0) aNil)) (xC (.int 1))) aNil))) (gN 3) (xT (xOp (eqF false) (xOp modF (xBo 0) (xBo 3)) (xC (.int 0)))) (xVar 3) [3]) (gN 1))
  (sSeq (sAsg (xLc (iA (xRev (xBo 1))) (gN 3) (xT (xOp (eqF true) (xOp mulF (xBo 3) (xBo 3)) (xBo 0))) (xOp fdivF (xBo 0) (xBo 3)) [3]) (gN 2))
  (sRet (xOp addF (xBo 1) (xBo 2))))))
def F_divisors_of : List D → Option D := runF 3 [false] B_divisors_of

theorem ok_divisors_of (T : Tx K mg) : FnOk P w K mg base CX0 4 T.f_divisors_of T.fd_divisors_of ["number"] (SpF K false [false] F_divisors_of) := by
  have G_check_number := ok_check_number (P := P) (w := w) (base := base) T
  refine T.F_divisors_of.ok sc_divisors_of (fun vs H Q E h => ?_) (fun cdv A outer s H vs Q E hr h => ?_)
  · obtain ⟨S, pt, ds, d, _, _, ar, _⟩ := h
    rw [ar.len.1]; rfl
  · exact ⟨_, (pss_cons (ps_expr (pe_call G_check_number (hr.mono (by decide)) (by rfl) T.m_check_number T.F_check_number.kp T.b_check_number .nil pass0 (pa_cons (pv 0) (pa_cons pe_int (pa_cons pe_int pa_nil)))))
  (pss_cons (ps_setLc (i := 1) (own := [("divisor", 3)]) (g := gName 3) rfl sc_divisors_of.nd rfl rfl (sw_true rfl rfl rfl (by decide +kernel)) (pi_range2 (by rfl) T.z_range (pa_cons pe_int (pa_cons (pe_op op_addA (pe_callBfun cr_isqrt (by rfl) T.m_isqrt (pa_cons (pv 0) pa_nil)) pe_int) pa_nil))) (blkOk_by (own := [("divisor", 3)]) (N := ["number", "low", "high", "divisor"]) (sc := defScope s_divisors_of) (by decide +kernel)) (fun _ _ _ _ _ => pg_name (i := 3) sc_divisors_of.nd rfl (.inl rfl)) (fun _ _ _ _ _ => (pts_one (pt_cmpR (op_eqA hr.units) (pe_op op_modN (pv 0) (pv 3)) pe_int (nomark _)))) (fun _ _ _ _ _ => (pv 3)))
  (pss_cons (ps_setLc (i := 2) (own := [("divisor", 3)]) (g := gName 3) rfl sc_divisors_of.nd rfl rfl (sw_true rfl rfl rfl (by decide +kernel)) (pi_any (pe_revL (pv 1))) (blkOk_by (own := [("divisor", 3)]) (N := ["number", "low", "high", "divisor"]) (sc := defScope s_divisors_of) (by decide +kernel)) (fun _ _ _ _ _ => pg_name (i := 3) sc_divisors_of.nd rfl (.inl rfl)) (fun _ _ _ _ _ => (pts_one (pt_cmpR (op_neA hr.units) (pe_op op_mulA (pv 3) (pv 3)) (pv 0) (nomark _)))) (fun _ _ _ _ _ => (pe_op op_fdivX (pv 0) (pv 3))))
  (pss_one (ps_ret (pe_op op_addA (pv 1) (pv 2))))))), SF.spF (b := B_divisors_of) (n := 3) (N := ["number", "low", "high", "divisor"]) (sf_seq (sf_drop (EF.bf (ef_call (ga_strict (ef_var 0) (ga_strict ef_int (ga_strict ef_int ga_nil))))))
  (sf_seq (sf_asg (NF.ef (nf_lc (if_rng2 (EF.bf ef_int) (EF.bf (ef_op of_addA (EF.bf (ef_cb cf_isqrt (ab_cons (bf_var 0) ab_nil))) (EF.bf ef_int)))) gf_name (tf_test (EF.bf (ef_op of_eq (EF.bf (ef_op of_mod (bf_var 0) (bf_var 3))) (EF.bf ef_int)))) (ef_var 3))) gf_name)
  (sf_seq (sf_asg (NF.ef (nf_lc (if_any (EF.yf (NF.ef (nf_rev (bf_var 1))))) gf_name (tf_test (EF.bf (ef_op of_ne (EF.bf (ef_op of_mulA (bf_var 3) (bf_var 3))) (bf_var 0)))) (ef_op of_fdiv (bf_var 0) (bf_var 3)))) gf_name)
  (sf_ret (ef_op of_addA (bf_var 1) (bf_var 2)))))) rfl h (fun z => nomatch z)⟩
def B_factored_c1 : FL.Tx :=
  (xT (xOp (eqF false) (xOp modF (xBo 0) (xBo 2)) (xC (.int 0))))
def B_factored_w1 : Sx :=
  (sSeq (sAug 0 fdivF (xBo 2))
  (sAug 3 addI (xC (.int 1))))
def B_factored_c2 : FL.Tx :=
  (xT (xOp (cmpF fun i j => decide (i ≤ j)) (xOp mulF (xBo 2) (xBo 2)) (xBo 0)))
def B_factored_w2 : Sx :=
  (sSeq (sAsg (xC (.int 0)) (gN 3))
  (sSeq (whGo B_factored_c1 B_factored_w1 10000000)
  (sSeq (sIf (xT (xOp (cmpF fun i j => decide (j < i)) (xBo 3) (xC (.int 0)))) (sApp 1 (xTup (aCons (xVar 2) (aCons (xVar 3) aNil)))) sNext)
  (sAug 2 addI (xC (.int 1))))))
def B_factored : Sx :=
  (sSeq (sAsg (xLst aNil) (oN 1))
  (sSeq (sAsg (xC (.int 2)) (gN 2))
  (sSeq (whGo B_factored_c2 B_factored_w2 10000000)
  (sSeq (sIf (xT (xOp (cmpF fun i j => decide (j < i)) (xBo 0) (xC (.int 1)))) (sApp 1 (xTup (aCons (xVar 0) (aCons (xC (.int 1)) aNil)))) sNext)
  (sRetO 1)))))
def F_factored : List D → Option D := runF 3 [false] B_factored

theorem ok_factored (T : Tx K mg) : FnOk P w K mg base CX0 1 T.f_factored T.fd_factored ["number"] (SpF K true [false] F_factored) := by

  refine T.F_factored.ok sc_factored (fun vs H Q E h => ?_) (fun cdv A outer s H vs Q E hr h => ?_)
  · obtain ⟨S, pt, ds, d, _, _, ar, _⟩ := h
    rw [ar.len.1]; rfl
  · exact ⟨_, (pss_cons (ps_set (i := 1) sc_factored.nd rfl (.inl rfl) (pe_lst pa_nil))
  (pss_cons (ps_set (i := 2) sc_factored.nd rfl (.inl rfl) pe_int)
  (pss_cons (ps_while PassesOwn.never (pt_cmpR op_le (pe_op op_mulA (pv 2) (pv 2)) (pv 0) (nomark _)) (pss_cons (ps_set (i := 3) sc_factored.nd rfl (.inl rfl) pe_int)
  (pss_cons (ps_while PassesOwn.never (pt_cmpR (op_eqA hr.units) (pe_op op_modN (pv 0) (pv 2)) pe_int (nomark _)) (pss_cons (ps_aug (i := 0) sc_factored.nd rfl (.inl rfl) (pv 2) iop_fdivX)
  (pss_one (ps_aug (i := 3) sc_factored.nd rfl (.inl rfl) pe_int ip_add))))
  (pss_cons (ps_if (pt_cmpR op_gt (pv 3) pe_int (nomark _)) (pss_one (ps_expr (pe_bm PySem.F.plainAttrs_list PySem.F.slot_list_append PySem.F.type_list_append mt_append (pv 1) (pa_cons (pe_tup (pa_cons (pv 2) (pa_cons (pv 3) pa_nil))) pa_nil)))) pss_nil)
  (pss_one (ps_aug (i := 2) sc_factored.nd rfl (.inl rfl) pe_int ip_add))))))
  (pss_cons (ps_if (pt_cmpR op_gt (pv 0) pe_int (nomark _)) (pss_one (ps_expr (pe_bm PySem.F.plainAttrs_list PySem.F.slot_list_append PySem.F.type_list_append mt_append (pv 1) (pa_cons (pe_tup (pa_cons (pv 0) (pa_cons pe_int pa_nil))) pa_nil)))) pss_nil)
  (pss_one (ps_ret (pv 1))))))), SF.spF (b := B_factored) (n := 3) (N := ["number", "found", "prime", "often"]) (sf_seq (sf_own (nf_lst af_nil))
  (sf_seq (sf_asg ef_int gf_name)
  (sf_seq (sf_while 10000000 (tf_test (EF.bf (ef_op of_cmp (EF.bf (ef_op of_mulA (bf_var 2) (bf_var 2))) (bf_var 0)))) (sf_seq (sf_asg ef_int gf_name)
  (sf_seq (sf_while 10000000 (tf_test (EF.bf (ef_op of_eq (EF.bf (ef_op of_mod (bf_var 0) (bf_var 2))) (EF.bf ef_int)))) (sf_seq (sf_aug of_fdiv (bf_var 2))
  (sf_aug of_ip_add (EF.bf ef_int))))
  (sf_seq (sf_if (tf_test (EF.bf (ef_op of_cmp (bf_var 3) (EF.bf ef_int)))) (sf_app (ef_tup (af_cons (ef_var 2) (af_cons (ef_var 3) af_nil)))) sf_next)
  (sf_aug of_ip_add (EF.bf ef_int))))))
  (sf_seq (sf_if (tf_test (EF.bf (ef_op of_cmp (bf_var 0) (EF.bf ef_int)))) (sf_app (ef_tup (af_cons (ef_var 0) (af_cons ef_int af_nil)))) sf_next)
  (sf_retO 1))))) rfl h (fun _ => (nn_seq (nn_seq (nn_seq (nn_seq nn_retO)))))⟩
def B_is_prime : Sx :=
  (sRet (xAndV (xCb F_is_within (aCons (xVar 0) (aCons (xC (.int 2)) (aCons (xC (.int 3000)) aNil)))) (xOp (eqF false) (xCb F_factored (aCons (xVar 0) aNil)) (xLst (aCons (xTup (aCons (xVar 0) (aCons (xC (.int 1)) aNil))) aNil)))))
def F_is_prime : List D → Option D := runF 0 [false] B_is_prime

theorem ok_is_prime (T : Tx K mg) : FnOk P w K mg base CX0 3 T.f_is_prime T.fd_is_prime ["value"] (SpF K false [false] F_is_prime) := by
  have G_factored := ok_factored (P := P) (w := w) (base := base) T
  have G_is_within := ok_is_within (P := P) (w := w) (base := base) T
  refine T.F_is_prime.ok sc_is_prime (fun vs H Q E h => ?_) (fun cdv A outer s H vs Q E hr h => ?_)
  · obtain ⟨S, pt, ds, d, _, _, ar, _⟩ := h
    rw [ar.len.1]; rfl
  · exact ⟨_, (pss_one (ps_ret (pe_and (pe_call G_is_within (hr.mono (by decide)) (by rfl) T.m_is_within T.F_is_within.kp T.b_is_within .nil pass0 (pa_cons (pv 0) (pa_cons pe_int (pa_cons pe_int pa_nil)))) (pe_one (pe_cmpR (op_eqA hr.units) (pe_call G_factored (hr.mono (by decide)) (by rfl) T.m_factored T.F_factored.kp T.b_factored .nil pass0 (pa_cons (pv 0) pa_nil)) (pe_lst (pa_cons (pe_tup (pa_cons (pv 0) (pa_cons pe_int pa_nil))) pa_nil)) (nomark _)))))), SF.spF (b := B_is_prime) (n := 0) (N := ["value"]) (sf_ret (ef_andV (EF.bf (ef_call (ga_strict (ef_var 0) (ga_strict ef_int (ga_strict ef_int ga_nil))))) (ef_op of_eq (EF.bf (NF.ef (nf_call (ga_strict (ef_var 0) ga_nil)))) (EF.bf (NF.ef (nf_lst (af_cons (ef_tup (af_cons (ef_var 0) (af_cons ef_int af_nil))) af_nil))))))) rfl h (fun z => nomatch z)⟩
def B_index_of_b1 : Sx :=
  (sAsg (xOp mulF (xOp fdivF (xBo 1) (xBo 2)) (xOp addF (xBo 2) (xC (.int 1)))) (gN 1))
def B_index_of : Sx :=
  (sSeq (sDrop (xCb F_check_level (aCons (xVar 0) aNil)))
  (sSeq (sAsg (xVar 0) (gN 1))
  (sSeq (sFor (iA (xCb F_factored (aCons (xVar 0) aNil))) (gT 2 (gsC (gN 2) (gsC (gN 3) gsN))) B_index_of_b1)
  (sRet (xVar 1)))))
def F_index_of : List D → Option D := runF 3 [false] B_index_of

theorem ok_index_of (T : Tx K mg) : FnOk P w K mg base CX0 4 T.f_index_of T.fd_index_of ["level"] (SpF K false [false] F_index_of) := by
  have G_check_level := ok_check_level (P := P) (w := w) (base := base) T
  have G_factored := ok_factored (P := P) (w := w) (base := base) T
  refine T.F_index_of.ok sc_index_of (fun vs H Q E h => ?_) (fun cdv A outer s H vs Q E hr h => ?_)
  · obtain ⟨S, pt, ds, d, _, _, ar, _⟩ := h
    rw [ar.len.1]; rfl
  · exact ⟨_, (pss_cons (ps_expr (pe_call G_check_level (hr.mono (by decide)) (by rfl) T.m_check_level T.F_check_level.kp T.b_check_level .nil pass0 (pa_cons (pv 0) pa_nil)))
  (pss_cons (ps_set (i := 1) sc_index_of.nd rfl (.inl rfl) (pv 0))
  (pss_cons (ps_for PassesOwn.never rfl (pi_any (pe_call G_factored (hr.mono (by decide)) (by rfl) T.m_factored T.F_factored.kp T.b_factored .nil pass0 (pa_cons (pv 0) pa_nil))) (pg_tup rfl (pgs_cons (pg_name (i := 2) sc_index_of.nd rfl (.inl rfl)) (pgs_cons (pg_name (i := 3) sc_index_of.nd rfl (.inl rfl)) pgs_nil))) (pss_one (ps_set (i := 1) sc_index_of.nd rfl (.inl rfl) (pe_op op_mulA (pe_op op_fdivX (pv 1) (pv 2)) (pe_op op_addA (pv 2) pe_int)))))
  (pss_one (ps_ret (pv 1)))))), SF.spF (b := B_index_of) (n := 3) (N := ["level", "index", "prime", "_"]) (sf_seq (sf_drop (EF.bf (ef_call (ga_strict (ef_var 0) ga_nil))))
  (sf_seq (sf_asg (ef_var 0) gf_name)
  (sf_seq (sf_for (if_any (EF.yf (NF.ef (nf_call (ga_strict (ef_var 0) ga_nil))))) (gf_tup (gsf_cons gf_name (gsf_cons gf_name (gsf_nil (vs := []))))) (sf_asg (ef_op of_mulA (EF.bf (ef_op of_fdiv (bf_var 1) (bf_var 2))) (EF.bf (ef_op of_addA (bf_var 2) (EF.bf ef_int)))) gf_name))
  (sf_ret (ef_var 1))))) rfl h (fun z => nomatch z)⟩
def B_symbol : Sx :=
  (sSeq (sDrop (xCb F_check_integer (aCons (xVar 0) aNil)))
  (sSeq (sIf (xOr (xNot (xT (xCb F_is_prime (aCons (xVar 1) aNil)))) (xT (xOp (eqF false) (xBo 1) (xC (.int 2))))) sNever sNext)
  (sSeq (sAsg (xOp modF (xBo 0) (xBo 1)) (gN 2))
  (sSeq (sIf (xT (xOp (eqF false) (xBo 2) (xC (.int 0)))) (sRet (xC (.int 0))) sNext)
  (sSeq (sIf (xT (xCb anyF (aCons (xLc (iR (aCons (xC (.int 1)) (aCons (xOp addF (xOp fdivF (xBo 1) (xC (.int 2))) (xC (.int 1))) aNil))) (gN 3) xYes (xOp (eqF false) (xOp modF (xOp mulF (xBo 3) (xBo 3)) (xBo 1)) (xBo 2)) [3]) aNil))) (sRet (xC (.int 1))) sNext)
  (sRet (xUn negF (xC (.int 1)))))))))
def F_symbol : List D → Option D := runF 2 [false, false] B_symbol

theorem ok_symbol (T : Tx K mg) : FnOk P w K mg base CX0 4 T.f_symbol T.fd_symbol ["first", "prime"] (SpF K false [false, false] F_symbol) := by
  have G_check_integer := ok_check_integer (P := P) (w := w) (base := base) T
  have G_is_prime := ok_is_prime (P := P) (w := w) (base := base) T
  refine T.F_symbol.ok sc_symbol (fun vs H Q E h => ?_) (fun cdv A outer s H vs Q E hr h => ?_)
  · obtain ⟨S, pt, ds, d, _, _, ar, _⟩ := h
    rw [ar.len.1]; rfl
  · exact ⟨_, (pss_cons (ps_expr (pe_call G_check_integer (hr.mono (by decide)) (by rfl) T.m_check_integer T.F_check_integer.kp T.b_check_integer .nil pass0 (pa_cons (pv 0) pa_nil)))
  (pss_cons (ps_if (PW.pt (pw_or (pt_not (pt_val (pe_call G_is_prime (hr.mono (by decide)) (by rfl) T.m_is_prime T.F_is_prime.kp T.b_is_prime .nil pass0 (pa_cons (pv 1) pa_nil)))) (pw_or1 (pt_cmpR (op_eqA hr.units) (pv 1) pe_int (nomark _))))) (pss_one ps_never) pss_nil)
  (pss_cons (ps_set (i := 2) sc_symbol.nd rfl (.inr rfl) (pe_op op_modN (pv 0) (pv 1)))
  (pss_cons (ps_if (pt_cmpR (op_eqA hr.units) (pv 2) pe_int (nomark _)) (pss_one (ps_ret pe_int)) pss_nil)
  (pss_cons (ps_if (pt_val (pe_callB (cr_any rfl) (by rfl) T.z_any (by decide +kernel) (pa_cons (pe_lc (own := [("root", 3)]) (g := gName 3) (tt := tYes) (by rfl) sc_symbol.nd (pi_range2 (by rfl) T.z_range (pa_cons pe_int (pa_cons (pe_op op_addA (pe_op op_fdivX (pv 1) pe_int) pe_int) pa_nil))) (blkOk_by (own := [("root", 3)]) (N := ["first", "prime", "rest", "root"]) (sc := defScope s_symbol) (by decide +kernel)) (fun _ _ _ _ _ => pg_name (i := 3) sc_symbol.nd rfl (.inl rfl)) (fun _ _ _ _ _ => pts_nil) (fun _ _ _ _ _ => (pe_cmpR (op_eqA hr.units) (pe_op op_modN (pe_op op_mulA (pv 3) (pv 3)) (pv 1)) (pv 2) (nomark _)))) pa_nil))) (pss_one (ps_ret pe_int)) pss_nil)
  (pss_one (ps_ret (pe_un un_neg pe_int)))))))), SF.spF (b := B_symbol) (n := 2) (N := ["first", "prime", "rest", "root"]) (sf_seq (sf_drop (EF.bf (ef_call (ga_strict (ef_var 0) ga_nil))))
  (sf_seq (sf_if (tf_or (tf_not (tf_test (EF.bf (ef_call (ga_strict (ef_var 1) ga_nil))))) (tf_test (EF.bf (ef_op of_eq (bf_var 1) (EF.bf ef_int))))) sf_never sf_next)
  (sf_seq (sf_asg (ef_op of_mod (bf_var 0) (bf_var 1)) gf_name)
  (sf_seq (sf_if (tf_test (EF.bf (ef_op of_eq (bf_var 2) (EF.bf ef_int)))) (sf_ret ef_int) sf_next)
  (sf_seq (sf_if (tf_test (EF.bf (ef_cb cf_any (ab_cons (EF.bf (NF.ef (nf_lc (if_rng2 (EF.bf ef_int) (EF.bf (ef_op of_addA (EF.bf (ef_op of_fdiv (bf_var 1) (EF.bf ef_int))) (EF.bf ef_int)))) gf_name tf_yes (ef_op of_eq (EF.bf (ef_op of_mod (EF.bf (ef_op of_mulA (bf_var 3) (bf_var 3))) (bf_var 1))) (bf_var 2))))) ab_nil)))) (sf_ret ef_int) sf_next)
  (sf_ret (ef_neg (EF.bf ef_int)))))))) rfl h (fun z => nomatch z)⟩
def B_is_step_power : Sx :=
  (sSeq (sIf (xOr (xNot (xT (xCb F_is_pair (aCons (xVar 0) aNil)))) (xNot (xT (xCb F_is_within (aCons (xOp ixF (xBo 0) (xC (.int 0))) (aCons (xC (.int 1)) (aCons (xC (.int 60)) aNil))))))) (sRet (xC (.bool false))) sNext)
  (sRet (xAndV (xCb F_is_within (aCons (xOp ixF (xBo 0) (xC (.int 1))) (aCons (xUn negF (xC (.int 60))) (aCons (xC (.int 60)) aNil)))) (xOp (eqF true) (xOp ixF (xBo 0) (xC (.int 1))) (xC (.int 0))))))
def F_is_step_power : List D → Option D := runF 0 [false] B_is_step_power

theorem ok_is_step_power (T : Tx K mg) : FnOk P w K mg base CX0 3 T.f_is_step_power T.fd_is_step_power ["value"] (SpF K false [false] F_is_step_power) := by
  have G_is_pair := ok_is_pair (P := P) (w := w) (base := base) T
  have G_is_within := ok_is_within (P := P) (w := w) (base := base) T
  refine T.F_is_step_power.ok sc_is_step_power (fun vs H Q E h => ?_) (fun cdv A outer s H vs Q E hr h => ?_)
  · obtain ⟨S, pt, ds, d, _, _, ar, _⟩ := h
    rw [ar.len.1]; rfl
  · exact ⟨_, (pss_cons (ps_if (PW.pt (pw_or (pt_not (pt_val (pe_call G_is_pair (hr.mono (by decide)) (by rfl) T.m_is_pair T.F_is_pair.kp T.b_is_pair .nil pass0 (pa_cons (pv 0) pa_nil)))) (pw_or1 (pt_not (pt_val (pe_call G_is_within (hr.mono (by decide)) (by rfl) T.m_is_within T.F_is_within.kp T.b_is_within .nil pass0 (pa_cons (pe_ix ix_seq (pv 0) pe_int (fun _ _ => rfl)) (pa_cons pe_int (pa_cons pe_int pa_nil))))))))) (pss_one (ps_ret pe_bl)) pss_nil)
  (pss_one (ps_ret (pe_and (pe_call G_is_within (hr.mono (by decide)) (by rfl) T.m_is_within T.F_is_within.kp T.b_is_within .nil pass0 (pa_cons (pe_ix ix_seq (pv 0) pe_int (fun _ _ => rfl)) (pa_cons (pe_un un_neg pe_int) (pa_cons pe_int pa_nil)))) (pe_one (pe_cmpR (op_neA hr.units) (pe_ix ix_seq (pv 0) pe_int (fun _ _ => rfl)) pe_int (nomark _))))))), SF.spF (b := B_is_step_power) (n := 0) (N := ["value"]) (sf_seq (sf_if (tf_or (tf_not (tf_test (EF.bf (ef_call (ga_strict (ef_var 0) ga_nil))))) (tf_not (tf_test (EF.bf (ef_call (ga_strict (ef_op of_ix (bf_var 0) (EF.bf ef_int)) (ga_strict ef_int (ga_strict ef_int ga_nil)))))))) (sf_ret ef_bool) sf_next)
  (sf_ret (ef_andV (EF.bf (ef_call (ga_strict (ef_op of_ix (bf_var 0) (EF.bf ef_int)) (ga_strict (ef_neg (EF.bf ef_int)) (ga_strict ef_int ga_nil))))) (ef_op of_ne (EF.bf (ef_op of_ix (bf_var 0) (EF.bf ef_int))) (EF.bf ef_int))))) rfl h (fun z => nomatch z)⟩
def B_is_product : Sx :=
  (sSeq (sIf (xNot (xT (xCb F_is_tagged (aCons (xVar 0) (aCons (xC (.str "product")) (aCons (xC (.int 2)) aNil)))))) (sRet (xC (.bool false))) sNext)
  (sSeq (sAsg (xOp ixF (xBo 0) (xC (.int 1))) (gN 1))
  (sSeq (sIf (xOr (xNot (xT (xIsi "tuple" (xBo 1)))) (xT (xOp (cmpF fun i j => decide (j < i)) (xCb lenF (aCons (xBo 1) aNil)) (xC (.int 12))))) (sRet (xC (.bool false))) sNext)
  (sRet (xAndV (xCb allF (aCons (xLc (iA (xLv 1)) (gN 2) xYes (xCb F_is_step_power (aCons (xVar 2) aNil)) [2]) aNil)) (xCb F_is_rising (aCons (xLc (iA (xLv 1)) (gN 2) xYes (xOp ixF (xBo 2) (xC (.int 0))) [2]) aNil)))))))
def F_is_product : List D → Option D := runF 2 [false] B_is_product

theorem ok_is_product (T : Tx K mg) : FnOk P w K mg base CX0 4 T.f_is_product T.fd_is_product ["value"] (SpF K false [false] F_is_product) := by
  have G_is_rising := ok_is_rising (P := P) (w := w) (base := base) T
  have G_is_step_power := ok_is_step_power (P := P) (w := w) (base := base) T
  have G_is_tagged := ok_is_tagged (P := P) (w := w) (base := base) T
  refine T.F_is_product.ok sc_is_product (fun vs H Q E h => ?_) (fun cdv A outer s H vs Q E hr h => ?_)
  · obtain ⟨S, pt, ds, d, _, _, ar, _⟩ := h
    rw [ar.len.1]; rfl
  · exact ⟨_, (pss_cons (ps_if (pt_not (pt_val (pe_call G_is_tagged (hr.mono (by decide)) (by rfl) T.m_is_tagged T.F_is_tagged.kp T.b_is_tagged .nil pass0 (pa_cons (pv 0) (pa_cons pe_str (pa_cons pe_int pa_nil)))))) (pss_one (ps_ret pe_bl)) pss_nil)
  (pss_cons (ps_set (i := 1) sc_is_product.nd rfl (.inl rfl) (pe_ix ix_seq (pv 0) pe_int (fun _ _ => rfl)))
  (pss_cons (ps_if (PW.pt (pw_or (pt_not (pt_val (pe_callB call_isi (by rfl) T.z_isinstance (by decide +kernel) (pa_cons (pv 1) (pa_cons (pe_bltn (v := .ty "tuple") (by rfl) T.z_tuple (by decide +kernel) rfl) pa_nil))))) (pw_or1 (pt_cmpR op_gt (pe_callB call_len (by rfl) T.z_len (by decide +kernel) (pa_cons (pv 1) pa_nil)) pe_int (nomark _))))) (pss_one (ps_ret pe_bl)) pss_nil)
  (pss_one (ps_ret (pe_and (pe_callB (cr_all rfl) (by rfl) T.z_all (by decide +kernel) (pa_cons (pe_lc (own := [("pair", 2)]) (g := gName 2) (tt := tYes) (by rfl) sc_is_product.nd (pi_any (pv 1)) (blkOk_by (own := [("pair", 2)]) (N := ["value", "powers", "pair"]) (sc := defScope s_is_product) (by decide +kernel)) (fun _ _ _ _ _ => pg_name (i := 2) sc_is_product.nd rfl (.inl rfl)) (fun _ _ _ _ _ => pts_nil) (fun _ _ _ _ _ => (pe_call G_is_step_power (hr.mono (by decide)) (by rfl) T.m_is_step_power T.F_is_step_power.kp T.b_is_step_power .nil pass0 (pa_cons (pv 2) pa_nil)))) pa_nil)) (pe_one (pe_call G_is_rising (hr.mono (by decide)) (by rfl) T.m_is_rising T.F_is_rising.kp T.b_is_rising .nil pass0 (pa_cons (pe_lc (own := [("pair", 2)]) (g := gName 2) (tt := tYes) (by rfl) sc_is_product.nd (pi_any (pv 1)) (blkOk_by (own := [("pair", 2)]) (N := ["value", "powers", "pair"]) (sc := defScope s_is_product) (by decide +kernel)) (fun _ _ _ _ _ => pg_name (i := 2) sc_is_product.nd rfl (.inl rfl)) (fun _ _ _ _ _ => pts_nil) (fun _ _ _ _ _ => (pe_ix ix_seq (pv 2) pe_int (fun _ _ => rfl)))) pa_nil))))))))), SF.spF (b := B_is_product) (n := 2) (N := ["value", "powers", "pair"]) (sf_seq (sf_if (tf_not (tf_test (EF.bf (ef_call (ga_strict (ef_var 0) (ga_strict ef_str (ga_strict ef_int ga_nil))))))) (sf_ret ef_bool) sf_next)
  (sf_seq (sf_asg (ef_op of_ix (bf_var 0) (EF.bf ef_int)) gf_name)
  (sf_seq (sf_if (tf_or (tf_not (tf_test (EF.bf (ef_isi isi_tuple (bf_var 1))))) (tf_test (EF.bf (ef_op of_cmp (EF.bf (ef_cb cf_len (ab_cons (bf_var 1) ab_nil))) (EF.bf ef_int))))) (sf_ret ef_bool) sf_next)
  (sf_ret (ef_andV (EF.bf (ef_cb cf_all (ab_cons (EF.bf (NF.ef (nf_lc (if_any (yf_var 1)) gf_name tf_yes (ef_call (ga_strict (ef_var 2) ga_nil))))) ab_nil))) (ef_call (ga_strict (NF.ef (nf_lc (if_any (yf_var 1)) gf_name tf_yes (ef_op of_ix (bf_var 2) (EF.bf ef_int)))) ga_nil))))))) rfl h (fun z => nomatch z)⟩
def B_check_product : Sx :=
  (sIf (xNot (xT (xCb F_is_product (aCons (xVar 0) aNil)))) sNever sNext)
def F_check_product : List D → Option D := runF 0 [false] B_check_product

theorem ok_check_product (T : Tx K mg) : FnOk P w K mg base CX0 5 T.f_check_product T.fd_check_product ["product"] (SpF K false [false] F_check_product) := by
  have G_is_product := ok_is_product (P := P) (w := w) (base := base) T
  refine T.F_check_product.ok sc_check_product (fun vs H Q E h => ?_) (fun cdv A outer s H vs Q E hr h => ?_)
  · obtain ⟨S, pt, ds, d, _, _, ar, _⟩ := h
    rw [ar.len.1]; rfl
  · exact ⟨_, (pss_one (ps_if (pt_not (pt_val (pe_call G_is_product (hr.mono (by decide)) (by rfl) T.m_is_product T.F_is_product.kp T.b_is_product .nil pass0 (pa_cons (pv 0) pa_nil)))) (pss_one ps_never) pss_nil)), SF.spF (b := B_check_product) (n := 0) (N := ["product"]) (sf_if (tf_not (tf_test (EF.bf (ef_call (ga_strict (ef_var 0) ga_nil))))) sf_never sf_next) rfl h (fun z => nomatch z)⟩
def B_odd_primes_b1 : Sx :=
  (sIf (xT (xOp (eqF false) (xOp modF (xBo 3) (xC (.int 2))) (xC (.int 1)))) (sAug 1 mulI (xBo 2)) sNext)
def B_odd_primes : Sx :=
  (sSeq (sAsg (xC (.int 1)) (gN 1))
  (sSeq (sFor (iA (xCb F_factored (aCons (xVar 0) aNil))) (gT 2 (gsC (gN 2) (gsC (gN 3) gsN))) B_odd_primes_b1)
  (sRet (xVar 1))))
def F_odd_primes : List D → Option D := runF 3 [false] B_odd_primes

theorem ok_odd_primes (T : Tx K mg) : FnOk P w K mg base CX0 2 T.f_odd_primes T.fd_odd_primes ["number"] (SpF K false [false] F_odd_primes) := by
  have G_factored := ok_factored (P := P) (w := w) (base := base) T
  refine T.F_odd_primes.ok sc_odd_primes (fun vs H Q E h => ?_) (fun cdv A outer s H vs Q E hr h => ?_)
  · obtain ⟨S, pt, ds, d, _, _, ar, _⟩ := h
    rw [ar.len.1]; rfl
  · exact ⟨_, (pss_cons (ps_set (i := 1) sc_odd_primes.nd rfl (.inl rfl) pe_int)
  (pss_cons (ps_for PassesOwn.never rfl (pi_any (pe_call G_factored (hr.mono (by decide)) (by rfl) T.m_factored T.F_factored.kp T.b_factored .nil pass0 (pa_cons (pv 0) pa_nil))) (pg_tup rfl (pgs_cons (pg_name (i := 2) sc_odd_primes.nd rfl (.inl rfl)) (pgs_cons (pg_name (i := 3) sc_odd_primes.nd rfl (.inl rfl)) pgs_nil))) (pss_one (ps_if (pt_cmpR (op_eqA hr.units) (pe_op op_modN (pv 3) pe_int) pe_int (nomark _)) (pss_one (ps_aug (i := 1) sc_odd_primes.nd rfl (.inl rfl) (pv 2) iop_mulX)) pss_nil)))
  (pss_one (ps_ret (pv 1))))), SF.spF (b := B_odd_primes) (n := 3) (N := ["number", "part", "prime", "often"]) (sf_seq (sf_asg ef_int gf_name)
  (sf_seq (sf_for (if_any (EF.yf (NF.ef (nf_call (ga_strict (ef_var 0) ga_nil))))) (gf_tup (gsf_cons gf_name (gsf_cons gf_name (gsf_nil (vs := []))))) (sf_if (tf_test (EF.bf (ef_op of_eq (EF.bf (ef_op of_mod (bf_var 3) (EF.bf ef_int))) (EF.bf ef_int)))) (sf_aug of_mulI (bf_var 2)) sf_next))
  (sf_ret (ef_var 1)))) rfl h (fun z => nomatch z)⟩
def B_power_sum : Sx :=
  (sRet (xCb sumF (aCons (xLc (iA (xOp ixF (xBo 0) (xC (.int 1)))) (gT 2 (gsC (gN 1) (gsC (gN 2) gsN))) xYes (xVar 2) [1, 2]) aNil)))
def F_power_sum : List D → Option D := runF 2 [false] B_power_sum

theorem ok_power_sum (T : Tx K mg) : FnOk P w K mg base CX0 1 T.f_power_sum T.fd_power_sum ["product"] (SpF K false [false] F_power_sum) := by

  refine T.F_power_sum.ok sc_power_sum (fun vs H Q E h => ?_) (fun cdv A outer s H vs Q E hr h => ?_)
  · obtain ⟨S, pt, ds, d, _, _, ar, _⟩ := h
    rw [ar.len.1]; rfl
  · exact ⟨_, (pss_one (ps_ret (pe_callB (cr_sum rfl) (by rfl) T.z_sum (by decide +kernel) (pa_cons (pe_lc (own := [("_", 1), ("power", 2)]) (g := gTup K 2 (gCons (gName 1) (gCons (gName 2) (gNil)))) (tt := tYes) (by rfl) sc_power_sum.nd (pi_any (pe_ix ix_seq (pv 0) pe_int (fun _ _ => rfl))) (blkOk_by (own := [("_", 1), ("power", 2)]) (N := ["product", "_", "power"]) (sc := defScope s_power_sum) (by decide +kernel)) (fun _ _ _ _ _ => (pg_tup rfl (pgs_cons (pg_name (i := 1) sc_power_sum.nd rfl (.inl rfl)) (pgs_cons (pg_name (i := 2) sc_power_sum.nd rfl (.inl rfl)) pgs_nil)))) (fun _ _ _ _ _ => pts_nil) (fun _ _ _ _ _ => (pv 2))) pa_nil)))), SF.spF (b := B_power_sum) (n := 2) (N := ["product", "_", "power"]) (sf_ret (ef_cb cf_sum (ab_cons (EF.bf (NF.ef (nf_lc (if_any (EF.yf (ef_op of_ix (bf_var 0) (EF.bf ef_int)))) (gf_tup (gsf_cons gf_name (gsf_cons gf_name (gsf_nil (vs := []))))) tf_yes (ef_var 2)))) ab_nil))) rfl h (fun z => nomatch z)⟩
def B_shift_sum : Sx :=
  (sRet (xCb sumF (aCons (xLc (iA (xOp ixF (xBo 0) (xC (.int 1)))) (gT 2 (gsC (gN 1) (gsC (gN 2) gsN))) xYes (xOp mulF (xBo 1) (xBo 2)) [1, 2]) aNil)))
def F_shift_sum : List D → Option D := runF 2 [false] B_shift_sum

theorem ok_shift_sum (T : Tx K mg) : FnOk P w K mg base CX0 1 T.f_shift_sum T.fd_shift_sum ["product"] (SpF K false [false] F_shift_sum) := by

  refine T.F_shift_sum.ok sc_shift_sum (fun vs H Q E h => ?_) (fun cdv A outer s H vs Q E hr h => ?_)
  · obtain ⟨S, pt, ds, d, _, _, ar, _⟩ := h
    rw [ar.len.1]; rfl
  · exact ⟨_, (pss_one (ps_ret (pe_callB (cr_sum rfl) (by rfl) T.z_sum (by decide +kernel) (pa_cons (pe_lc (own := [("step", 1), ("power", 2)]) (g := gTup K 2 (gCons (gName 1) (gCons (gName 2) (gNil)))) (tt := tYes) (by rfl) sc_shift_sum.nd (pi_any (pe_ix ix_seq (pv 0) pe_int (fun _ _ => rfl))) (blkOk_by (own := [("step", 1), ("power", 2)]) (N := ["product", "step", "power"]) (sc := defScope s_shift_sum) (by decide +kernel)) (fun _ _ _ _ _ => (pg_tup rfl (pgs_cons (pg_name (i := 1) sc_shift_sum.nd rfl (.inl rfl)) (pgs_cons (pg_name (i := 2) sc_shift_sum.nd rfl (.inl rfl)) pgs_nil)))) (fun _ _ _ _ _ => pts_nil) (fun _ _ _ _ _ => (pe_op op_mulA (pv 1) (pv 2)))) pa_nil)))), SF.spF (b := B_shift_sum) (n := 2) (N := ["product", "step", "power"]) (sf_ret (ef_cb cf_sum (ab_cons (EF.bf (NF.ef (nf_lc (if_any (EF.yf (ef_op of_ix (bf_var 0) (EF.bf ef_int)))) (gf_tup (gsf_cons gf_name (gsf_cons gf_name (gsf_nil (vs := []))))) tf_yes (ef_op of_mulA (bf_var 1) (bf_var 2))))) ab_nil))) rfl h (fun z => nomatch z)⟩
def B_turned_sum : Sx :=
  (sRet (xCb sumF (aCons (xLc (iA (xOp ixF (xBo 0) (xC (.int 1)))) (gT 2 (gsC (gN 2) (gsC (gN 3) gsN))) xYes (xOp mulF (xOp fdivF (xBo 1) (xBo 2)) (xBo 3)) [2, 3]) aNil)))
def F_turned_sum : List D → Option D := runF 2 [false, false] B_turned_sum

theorem ok_turned_sum (T : Tx K mg) : FnOk P w K mg base CX0 1 T.f_turned_sum T.fd_turned_sum ["product", "level"] (SpF K false [false, false] F_turned_sum) := by

  refine T.F_turned_sum.ok sc_turned_sum (fun vs H Q E h => ?_) (fun cdv A outer s H vs Q E hr h => ?_)
  · obtain ⟨S, pt, ds, d, _, _, ar, _⟩ := h
    rw [ar.len.1]; rfl
  · exact ⟨_, (pss_one (ps_ret (pe_callB (cr_sum rfl) (by rfl) T.z_sum (by decide +kernel) (pa_cons (pe_lc (own := [("step", 2), ("power", 3)]) (g := gTup K 2 (gCons (gName 2) (gCons (gName 3) (gNil)))) (tt := tYes) (by rfl) sc_turned_sum.nd (pi_any (pe_ix ix_seq (pv 0) pe_int (fun _ _ => rfl))) (blkOk_by (own := [("step", 2), ("power", 3)]) (N := ["product", "level", "step", "power"]) (sc := defScope s_turned_sum) (by decide +kernel)) (fun _ _ _ _ _ => (pg_tup rfl (pgs_cons (pg_name (i := 2) sc_turned_sum.nd rfl (.inl rfl)) (pgs_cons (pg_name (i := 3) sc_turned_sum.nd rfl (.inl rfl)) pgs_nil)))) (fun _ _ _ _ _ => pts_nil) (fun _ _ _ _ _ => (pe_op op_mulA (pe_op op_fdivX (pv 1) (pv 2)) (pv 3)))) pa_nil)))), SF.spF (b := B_turned_sum) (n := 2) (N := ["product", "level", "step", "power"]) (sf_ret (ef_cb cf_sum (ab_cons (EF.bf (NF.ef (nf_lc (if_any (EF.yf (ef_op of_ix (bf_var 0) (EF.bf ef_int)))) (gf_tup (gsf_cons gf_name (gsf_cons gf_name (gsf_nil (vs := []))))) tf_yes (ef_op of_mulA (EF.bf (ef_op of_fdiv (bf_var 1) (bf_var 2))) (bf_var 3))))) ab_nil))) rfl h (fun z => nomatch z)⟩
def B_has_steps_of : Sx :=
  (sRet (xCb allF (aCons (xLc (iA (xOp ixF (xBo 0) (xC (.int 1)))) (gT 2 (gsC (gN 2) (gsC (gN 3) gsN))) xYes (xOp (eqF false) (xOp modF (xBo 1) (xBo 2)) (xC (.int 0))) [2, 3]) aNil)))
def F_has_steps_of : List D → Option D := runF 2 [false, false] B_has_steps_of

theorem ok_has_steps_of (T : Tx K mg) : FnOk P w K mg base CX0 1 T.f_has_steps_of T.fd_has_steps_of ["product", "level"] (SpF K false [false, false] F_has_steps_of) := by

  refine T.F_has_steps_of.ok sc_has_steps_of (fun vs H Q E h => ?_) (fun cdv A outer s H vs Q E hr h => ?_)
  · obtain ⟨S, pt, ds, d, _, _, ar, _⟩ := h
    rw [ar.len.1]; rfl
  · exact ⟨_, (pss_one (ps_ret (pe_callB (cr_all rfl) (by rfl) T.z_all (by decide +kernel) (pa_cons (pe_lc (own := [("step", 2), ("_", 3)]) (g := gTup K 2 (gCons (gName 2) (gCons (gName 3) (gNil)))) (tt := tYes) (by rfl) sc_has_steps_of.nd (pi_any (pe_ix ix_seq (pv 0) pe_int (fun _ _ => rfl))) (blkOk_by (own := [("step", 2), ("_", 3)]) (N := ["product", "level", "step", "_"]) (sc := defScope s_has_steps_of) (by decide +kernel)) (fun _ _ _ _ _ => (pg_tup rfl (pgs_cons (pg_name (i := 2) sc_has_steps_of.nd rfl (.inl rfl)) (pgs_cons (pg_name (i := 3) sc_has_steps_of.nd rfl (.inl rfl)) pgs_nil)))) (fun _ _ _ _ _ => pts_nil) (fun _ _ _ _ _ => (pe_cmpR (op_eqA hr.units) (pe_op op_modN (pv 1) (pv 2)) pe_int (nomark _)))) pa_nil)))), SF.spF (b := B_has_steps_of) (n := 2) (N := ["product", "level", "step", "_"]) (sf_ret (ef_cb cf_all (ab_cons (EF.bf (NF.ef (nf_lc (if_any (EF.yf (ef_op of_ix (bf_var 0) (EF.bf ef_int)))) (gf_tup (gsf_cons gf_name (gsf_cons gf_name (gsf_nil (vs := []))))) tf_yes (ef_op of_eq (EF.bf (ef_op of_mod (bf_var 1) (bf_var 2))) (EF.bf ef_int))))) ab_nil))) rfl h (fun z => nomatch z)⟩
def B_lacking : Sx :=
  (sSeq (sAsg (xLst aNil) (oN 2))
  (sSeq (sAsg (xCb F_has_steps_of (aCons (xVar 0) (aCons (xVar 1) aNil))) (gN 3))
  (sSeq (sIf (xNot (xT (xBo 3))) (sApp 2 (xC (.str "steps"))) sNext)
  (sSeq (sIf (xT (xOp (eqF true) (xOp modF (xCb F_power_sum (aCons (xVar 0) aNil)) (xC (.int 2))) (xC (.int 0)))) (sApp 2 (xC (.str "weight"))) sNext)
  (sSeq (sIf (xT (xOp (eqF true) (xOp modF (xCb F_shift_sum (aCons (xVar 0) aNil)) (xC (.int 24))) (xC (.int 0)))) (sApp 2 (xC (.str "shift"))) sNext)
  (sSeq (sIf (xAnd (xT (xBo 3)) (xT (xOp (eqF true) (xOp modF (xCb F_turned_sum (aCons (xVar 0) (aCons (xVar 1) aNil))) (xC (.int 24))) (xC (.int 0))))) (sApp 2 (xC (.str "turned"))) sNext)
  (sRetO 2)))))))
def F_lacking : List D → Option D := runF 2 [false, false] B_lacking

theorem ok_lacking (T : Tx K mg) : FnOk P w K mg base CX0 2 T.f_lacking T.fd_lacking ["product", "level"] (SpF K true [false, false] F_lacking) := by
  have G_has_steps_of := ok_has_steps_of (P := P) (w := w) (base := base) T
  have G_power_sum := ok_power_sum (P := P) (w := w) (base := base) T
  have G_shift_sum := ok_shift_sum (P := P) (w := w) (base := base) T
  have G_turned_sum := ok_turned_sum (P := P) (w := w) (base := base) T
  refine T.F_lacking.ok sc_lacking (fun vs H Q E h => ?_) (fun cdv A outer s H vs Q E hr h => ?_)
  · obtain ⟨S, pt, ds, d, _, _, ar, _⟩ := h
    rw [ar.len.1]; rfl
  · exact ⟨_, (pss_cons (ps_set (i := 2) sc_lacking.nd rfl (.inl rfl) (pe_lst pa_nil))
  (pss_cons (ps_set (i := 3) sc_lacking.nd rfl (.inl rfl) (pe_call G_has_steps_of (hr.mono (by decide)) (by rfl) T.m_has_steps_of T.F_has_steps_of.kp T.b_has_steps_of .nil pass0 (pa_cons (pv 0) (pa_cons (pv 1) pa_nil))))
  (pss_cons (ps_if (pt_not (pt_val (pv 3))) (pss_one (ps_expr (pe_bm PySem.F.plainAttrs_list PySem.F.slot_list_append PySem.F.type_list_append mt_append (pv 2) (pa_cons pe_str pa_nil)))) pss_nil)
  (pss_cons (ps_if (pt_cmpR (op_neA hr.units) (pe_op op_modN (pe_call G_power_sum (hr.mono (by decide)) (by rfl) T.m_power_sum T.F_power_sum.kp T.b_power_sum .nil pass0 (pa_cons (pv 0) pa_nil)) pe_int) pe_int (nomark _)) (pss_one (ps_expr (pe_bm PySem.F.plainAttrs_list PySem.F.slot_list_append PySem.F.type_list_append mt_append (pv 2) (pa_cons pe_str pa_nil)))) pss_nil)
  (pss_cons (ps_if (pt_cmpR (op_neA hr.units) (pe_op op_modN (pe_call G_shift_sum (hr.mono (by decide)) (by rfl) T.m_shift_sum T.F_shift_sum.kp T.b_shift_sum .nil pass0 (pa_cons (pv 0) pa_nil)) pe_int) pe_int (nomark _)) (pss_one (ps_expr (pe_bm PySem.F.plainAttrs_list PySem.F.slot_list_append PySem.F.type_list_append mt_append (pv 2) (pa_cons pe_str pa_nil)))) pss_nil)
  (pss_cons (ps_if (PW.pt (pw_and (pt_val (pv 3)) (pw_and1 (pt_cmpR (op_neA hr.units) (pe_op op_modN (pe_call G_turned_sum (hr.mono (by decide)) (by rfl) T.m_turned_sum T.F_turned_sum.kp T.b_turned_sum .nil pass0 (pa_cons (pv 0) (pa_cons (pv 1) pa_nil))) pe_int) pe_int (nomark _))))) (pss_one (ps_expr (pe_bm PySem.F.plainAttrs_list PySem.F.slot_list_append PySem.F.type_list_append mt_append (pv 2) (pa_cons pe_str pa_nil)))) pss_nil)
  (pss_one (ps_ret (pv 2))))))))), SF.spF (b := B_lacking) (n := 2) (N := ["product", "level", "words", "dividing"]) (sf_seq (sf_own (nf_lst af_nil))
  (sf_seq (sf_asg (ef_call (ga_strict (ef_var 0) (ga_strict (ef_var 1) ga_nil))) gf_name)
  (sf_seq (sf_if (tf_not (tf_test (bf_var 3))) (sf_app ef_str) sf_next)
  (sf_seq (sf_if (tf_test (EF.bf (ef_op of_ne (EF.bf (ef_op of_mod (EF.bf (ef_call (ga_strict (ef_var 0) ga_nil))) (EF.bf ef_int))) (EF.bf ef_int)))) (sf_app ef_str) sf_next)
  (sf_seq (sf_if (tf_test (EF.bf (ef_op of_ne (EF.bf (ef_op of_mod (EF.bf (ef_call (ga_strict (ef_var 0) ga_nil))) (EF.bf ef_int))) (EF.bf ef_int)))) (sf_app ef_str) sf_next)
  (sf_seq (sf_if (tf_and (tf_test (bf_var 3)) (tf_test (EF.bf (ef_op of_ne (EF.bf (ef_op of_mod (EF.bf (ef_call (ga_strict (ef_var 0) (ga_strict (ef_var 1) ga_nil)))) (EF.bf ef_int))) (EF.bf ef_int))))) (sf_app ef_str) sf_next)
  (sf_retO 2))))))) rfl h (fun _ => (nn_seq (nn_seq (nn_seq (nn_seq (nn_seq (nn_seq nn_retO)))))))⟩
def B_check_fits : Sx :=
  (sIf (xTL (xCb F_lacking (aCons (xVar 0) (aCons (xVar 1) aNil)))) sNever sNext)
def F_check_fits : List D → Option D := runF 0 [false, false] B_check_fits

theorem ok_check_fits (T : Tx K mg) : FnOk P w K mg base CX0 3 T.f_check_fits T.fd_check_fits ["product", "level"] (SpF K false [false, false] F_check_fits) := by
  have G_lacking := ok_lacking (P := P) (w := w) (base := base) T
  refine T.F_check_fits.ok sc_check_fits (fun vs H Q E h => ?_) (fun cdv A outer s H vs Q E hr h => ?_)
  · obtain ⟨S, pt, ds, d, _, _, ar, _⟩ := h
    rw [ar.len.1]; rfl
  · exact ⟨_, (pss_one (ps_if (pt_truth (pe_call G_lacking (hr.mono (by decide)) (by rfl) T.m_lacking T.F_lacking.kp T.b_lacking .nil pass0 (pa_cons (pv 0) (pa_cons (pv 1) pa_nil))) (by intro _; rfl)) (pss_one ps_never) pss_nil)), SF.spF (b := B_check_fits) (n := 0) (N := ["product", "level"]) (sf_if (tf_truth (EF.bf (NF.ef (nf_call (ga_strict (ef_var 0) (ga_strict (ef_var 1) ga_nil)))))) sf_never sf_next) rfl h (fun z => nomatch z)⟩
def B_kind_told_b1 : Sx :=
  (sIf (xT (xOp (eqF true) (xOp modF (xBo 4) (xC (.int 2))) (xC (.int 0)))) (sAug 2 mulI (xBo 3)) sNext)
def B_kind_told : Sx :=
  (sSeq (sAsg (xOp fdivF (xCb F_power_sum (aCons (xVar 0) aNil)) (xC (.int 2))) (gN 1))
  (sSeq (sAsg (xC (.int 1)) (gN 2))
  (sSeq (sFor (iA (xOp ixF (xBo 0) (xC (.int 1)))) (gT 2 (gsC (gN 3) (gsC (gN 4) gsN))) B_kind_told_b1)
  (sSeq (sAsg (xCb F_odd_primes (aCons (xVar 2) aNil)) (gN 5))
  (sRet (xTup (aCons (xVar 1) (aCons (xIf (xT (xOp (eqF false) (xOp modF (xBo 1) (xC (.int 2))) (xC (.int 0)))) (xVar 5) (xUn negF (xBo 5))) aNil))))))))
def F_kind_told : List D → Option D := runF 5 [false] B_kind_told

theorem ok_kind_told (T : Tx K mg) : FnOk P w K mg base CX0 3 T.f_kind_told T.fd_kind_told ["product"] (SpF K false [false] F_kind_told) := by
  have G_odd_primes := ok_odd_primes (P := P) (w := w) (base := base) T
  have G_power_sum := ok_power_sum (P := P) (w := w) (base := base) T
  refine T.F_kind_told.ok sc_kind_told (fun vs H Q E h => ?_) (fun cdv A outer s H vs Q E hr h => ?_)
  · obtain ⟨S, pt, ds, d, _, _, ar, _⟩ := h
    rw [ar.len.1]; rfl
  · exact ⟨_, (pss_cons (ps_set (i := 1) sc_kind_told.nd rfl (.inl rfl) (pe_op op_fdivX (pe_call G_power_sum (hr.mono (by decide)) (by rfl) T.m_power_sum T.F_power_sum.kp T.b_power_sum .nil pass0 (pa_cons (pv 0) pa_nil)) pe_int))
  (pss_cons (ps_set (i := 2) sc_kind_told.nd rfl (.inl rfl) pe_int)
  (pss_cons (ps_for PassesOwn.never rfl (pi_any (pe_ix ix_seq (pv 0) pe_int (fun _ _ => rfl))) (pg_tup rfl (pgs_cons (pg_name (i := 3) sc_kind_told.nd rfl (.inl rfl)) (pgs_cons (pg_name (i := 4) sc_kind_told.nd rfl (.inl rfl)) pgs_nil))) (pss_one (ps_if (pt_cmpR (op_neA hr.units) (pe_op op_modN (pv 4) pe_int) pe_int (nomark _)) (pss_one (ps_aug (i := 2) sc_kind_told.nd rfl (.inl rfl) (pv 3) iop_mulX)) pss_nil)))
  (pss_cons (ps_set (i := 5) sc_kind_told.nd rfl (.inl rfl) (pe_call G_odd_primes (hr.mono (by decide)) (by rfl) T.m_odd_primes T.F_odd_primes.kp T.b_odd_primes .nil pass0 (pa_cons (pv 2) pa_nil)))
  (pss_one (ps_ret (pe_tup (pa_cons (pv 1) (pa_cons (pe_ifExp (pt_cmpR (op_eqA hr.units) (pe_op op_modN (pv 1) pe_int) pe_int (nomark _)) (pv 5) (pe_un un_neg (pv 5))) pa_nil))))))))), SF.spF (b := B_kind_told) (n := 5) (N := ["product", "weight", "steps", "step", "power", "sign"]) (sf_seq (sf_asg (ef_op of_fdiv (EF.bf (ef_call (ga_strict (ef_var 0) ga_nil))) (EF.bf ef_int)) gf_name)
  (sf_seq (sf_asg ef_int gf_name)
  (sf_seq (sf_for (if_any (EF.yf (ef_op of_ix (bf_var 0) (EF.bf ef_int)))) (gf_tup (gsf_cons gf_name (gsf_cons gf_name (gsf_nil (vs := []))))) (sf_if (tf_test (EF.bf (ef_op of_ne (EF.bf (ef_op of_mod (bf_var 4) (EF.bf ef_int))) (EF.bf ef_int)))) (sf_aug of_mulI (bf_var 3)) sf_next))
  (sf_seq (sf_asg (ef_call (ga_strict (ef_var 2) ga_nil)) gf_name)
  (sf_ret (ef_tup (af_cons (ef_var 1) (af_cons (ef_if (tf_test (EF.bf (ef_op of_eq (EF.bf (ef_op of_mod (bf_var 1) (EF.bf ef_int))) (EF.bf ef_int)))) (ef_var 5) (ef_neg (bf_var 5))) af_nil)))))))) rfl h (fun z => nomatch z)⟩
def B_width_at : Sx :=
  (sRet (xOp fdivF (xBo 0) (xOp mulF (xBo 1) (xCb gcdF (aCons (xBo 1) (aCons (xOp fdivF (xBo 0) (xBo 1)) aNil))))))
def F_width_at : List D → Option D := runF 0 [false, false] B_width_at

theorem ok_width_at (T : Tx K mg) : FnOk P w K mg base CX0 1 T.f_width_at T.fd_width_at ["level", "end"] (SpF K false [false, false] F_width_at) := by

  refine T.F_width_at.ok sc_width_at (fun vs H Q E h => ?_) (fun cdv A outer s H vs Q E hr h => ?_)
  · obtain ⟨S, pt, ds, d, _, _, ar, _⟩ := h
    rw [ar.len.1]; rfl
  · exact ⟨_, (pss_one (ps_ret (pe_op op_fdivX (pv 0) (pe_op op_mulA (pv 1) (pe_callBfun cr_gcd (by rfl) T.m_gcd (pa_cons (pv 1) (pa_cons (pe_op op_fdivX (pv 0) (pv 1)) pa_nil))))))), SF.spF (b := B_width_at) (n := 0) (N := ["level", "end"]) (sf_ret (ef_op of_fdiv (bf_var 0) (EF.bf (ef_op of_mulA (bf_var 1) (EF.bf (ef_cb cf_gcd (ab_cons (bf_var 1) (ab_cons (EF.bf (ef_op of_fdiv (bf_var 0) (bf_var 1))) ab_nil)))))))) rfl h (fun z => nomatch z)⟩
def B_order_part : Sx :=
  (sSeq (sAsg (xCb sumF (aCons (xLc (iA (xOp ixF (xBo 0) (xC (.int 1)))) (gT 2 (gsC (gN 4) (gsC (gN 5) gsN))) xYes (xOp mulF (xOp mulF (xOp powF (xCb gcdF (aCons (xBo 2) (aCons (xBo 4) aNil))) (xC (.int 2))) (xOp fdivF (xBo 1) (xBo 4))) (xBo 5)) [4, 5]) aNil)) (gN 3))
  (sRet (xOp mulF (xCb F_width_at (aCons (xVar 1) (aCons (xVar 2) aNil))) (xBo 3))))
def F_order_part : List D → Option D := runF 3 [false, false, false] B_order_part

theorem ok_order_part (T : Tx K mg) : FnOk P w K mg base CX0 2 T.f_order_part T.fd_order_part ["product", "level", "end"] (SpF K false [false, false, false] F_order_part) := by
  have G_width_at := ok_width_at (P := P) (w := w) (base := base) T
  refine T.F_order_part.ok sc_order_part (fun vs H Q E h => ?_) (fun cdv A outer s H vs Q E hr h => ?_)
  · obtain ⟨S, pt, ds, d, _, _, ar, _⟩ := h
    rw [ar.len.1]; rfl
  · exact ⟨_, (pss_cons (ps_set (i := 3) sc_order_part.nd rfl (.inl rfl) (pe_callB (cr_sum rfl) (by rfl) T.z_sum (by decide +kernel) (pa_cons (pe_lc (own := [("step", 4), ("power", 5)]) (g := gTup K 2 (gCons (gName 4) (gCons (gName 5) (gNil)))) (tt := tYes) (by rfl) sc_order_part.nd (pi_any (pe_ix ix_seq (pv 0) pe_int (fun _ _ => rfl))) (blkOk_by (own := [("step", 4), ("power", 5)]) (N := ["product", "level", "end", "total", "step", "power"]) (sc := defScope s_order_part) (by decide +kernel)) (fun _ _ _ _ _ => (pg_tup rfl (pgs_cons (pg_name (i := 4) sc_order_part.nd rfl (.inl rfl)) (pgs_cons (pg_name (i := 5) sc_order_part.nd rfl (.inl rfl)) pgs_nil)))) (fun _ _ _ _ _ => pts_nil) (fun _ _ _ _ _ => (pe_op op_mulA (pe_op op_mulA (pe_op op_powX (pe_callBfun cr_gcd (by rfl) T.m_gcd (pa_cons (pv 2) (pa_cons (pv 4) pa_nil))) pe_int) (pe_op op_fdivX (pv 1) (pv 4))) (pv 5)))) pa_nil)))
  (pss_one (ps_ret (pe_op op_mulA (pe_call G_width_at (hr.mono (by decide)) (by rfl) T.m_width_at T.F_width_at.kp T.b_width_at .nil pass0 (pa_cons (pv 1) (pa_cons (pv 2) pa_nil))) (pv 3))))), SF.spF (b := B_order_part) (n := 3) (N := ["product", "level", "end", "total", "step", "power"]) (sf_seq (sf_asg (ef_cb cf_sum (ab_cons (EF.bf (NF.ef (nf_lc (if_any (EF.yf (ef_op of_ix (bf_var 0) (EF.bf ef_int)))) (gf_tup (gsf_cons gf_name (gsf_cons gf_name (gsf_nil (vs := []))))) tf_yes (ef_op of_mulA (EF.bf (ef_op of_mulA (EF.bf (ef_op of_pow (EF.bf (ef_cb cf_gcd (ab_cons (bf_var 2) (ab_cons (bf_var 4) ab_nil)))) (EF.bf ef_int))) (EF.bf (ef_op of_fdiv (bf_var 1) (bf_var 4))))) (bf_var 5))))) ab_nil)) gf_name)
  (sf_ret (ef_op of_mulA (EF.bf (ef_call (ga_strict (ef_var 1) (ga_strict (ef_var 2) ga_nil)))) (bf_var 3)))) rfl h (fun z => nomatch z)⟩
def B_order_parts : Sx :=
  (sRet (xLc (iA (xCb F_divisors_of (aCons (xVar 1) aNil))) (gN 2) xYes (xCb F_order_part (aCons (xVar 0) (aCons (xVar 1) (aCons (xVar 2) aNil)))) [2]))
def F_order_parts : List D → Option D := runF 1 [false, false] B_order_parts

theorem ok_order_parts (T : Tx K mg) : FnOk P w K mg base CX0 5 T.f_order_parts T.fd_order_parts ["product", "level"] (SpF K true [false, false] F_order_parts) := by
  have G_divisors_of := ok_divisors_of (P := P) (w := w) (base := base) T
  have G_order_part := ok_order_part (P := P) (w := w) (base := base) T
  refine T.F_order_parts.ok sc_order_parts (fun vs H Q E h => ?_) (fun cdv A outer s H vs Q E hr h => ?_)
  · obtain ⟨S, pt, ds, d, _, _, ar, _⟩ := h
    rw [ar.len.1]; rfl
  · exact ⟨_, (pss_one (ps_ret (pe_lc (own := [("end", 2)]) (g := gName 2) (tt := tYes) (by rfl) sc_order_parts.nd (pi_any (pe_call G_divisors_of (hr.mono (by decide)) (by rfl) T.m_divisors_of T.F_divisors_of.kp T.b_divisors_of .nil pass0 (pa_cons (pv 1) pa_nil))) (blkOk_by (own := [("end", 2)]) (N := ["product", "level", "end"]) (sc := defScope s_order_parts) (by decide +kernel)) (fun _ _ _ _ _ => pg_name (i := 2) sc_order_parts.nd rfl (.inl rfl)) (fun _ _ _ _ _ => pts_nil) (fun _ _ _ _ _ => (pe_call G_order_part (hr.mono (by decide)) (by rfl) T.m_order_part T.F_order_part.kp T.b_order_part .nil pass0 (pa_cons (pv 0) (pa_cons (pv 1) (pa_cons (pv 2) pa_nil)))))))), SF.spF (b := B_order_parts) (n := 1) (N := ["product", "level", "end"]) (sf_retN (nf_lc (if_any (EF.yf (ef_call (ga_strict (ef_var 1) ga_nil)))) gf_name tf_yes (ef_call (ga_strict (ef_var 0) (ga_strict (ef_var 1) (ga_strict (ef_var 2) ga_nil)))))) rfl h (fun _ => nn_ret)⟩
def B_sums_of_b1 : Sx :=
  (sAugS 2 subF (xBo 4) (xOp mulF (xBo 3) (xOp ixF (xBo 0) (xBo 3))))
def B_sums_of_b2 : Sx :=
  (sIf (xT (xOp (eqF true) (xOp ixF (xBo 0) (xBo 3)) (xC (.int 0)))) (sFor (iR3 (aCons (xBo 3) (aCons (xBo 1) (aCons (xBo 3) aNil)))) (gN 4) B_sums_of_b1) sNext)
def B_sums_of : Sx :=
  (sSeq (sAsg (xOp repF (xLst (aCons (xC (.int 0)) aNil)) (xBo 1)) (oN 2))
  (sSeq (sFor (iR (aCons (xC (.int 1)) (aCons (xBo 1) aNil))) (gN 3) B_sums_of_b2)
  (sRet (xSl cutL (xBo 2) (xPo (xC (.int 1))) xPn))))
def F_sums_of : List D → Option D := runF 3 [true, false] B_sums_of

theorem ok_sums_of (T : Tx K mg) : FnOk P w K mg base CX0 1 T.f_sums_of T.fd_sums_of ["powers", "many"] (SpF K true [true, false] F_sums_of) := by

  refine T.F_sums_of.ok sc_sums_of (fun vs H Q E h => ?_) (fun cdv A outer s H vs Q E hr h => ?_)
  · obtain ⟨S, pt, ds, d, _, _, ar, _⟩ := h
    rw [ar.len.1]; rfl
  · exact ⟨_, (pss_cons (ps_set (i := 2) sc_sums_of.nd rfl (.inl rfl) (pe_op op_mulA (pe_lst (pa_cons pe_int pa_nil)) (pv 1)))
  (pss_cons (ps_for PassesOwn.never rfl (pi_range2 (by rfl) T.z_range (pa_cons pe_int (pa_cons (pv 1) pa_nil))) (pg_name (i := 3) sc_sums_of.nd rfl (.inl rfl)) (pss_one (ps_if (pt_cmpR (op_neA hr.units) (pe_ix ix_seq (pv 0) (pv 3) (fun _ _ => rfl)) pe_int (nomark _)) (pss_one (ps_for PassesOwn.never rfl (pi_range3 (by rfl) T.z_range (pa_cons (pv 3) (pa_cons (pv 1) (pa_cons (pv 3) pa_nil)))) (pg_name (i := 4) sc_sums_of.nd rfl (.inl rfl)) (pss_one (ps_augS (pv 2) (pv 4) get_listG (pe_op op_mulA (pv 3) (pe_ix ix_seq (pv 0) (pv 3) (fun _ _ => rfl))) ip_sub set_list)))) pss_nil)))
  (pss_one (ps_ret (pe_slice sl_any (pv 2) (po_some pe_int) po_none))))), SF.spF (b := B_sums_of) (n := 3) (N := ["powers", "many", "sums", "divisor", "place"]) (sf_seq (sf_own (nf_op on_mulA (EF.bf (NF.ef (nf_lst (af_cons ef_int af_nil)))) (bf_var 1)))
  (sf_seq (sf_for (if_rng2 (EF.bf ef_int) (bf_var 1)) gf_name (sf_if (tf_test (EF.bf (ef_op of_ne (EF.bf (ef_op of_ix (bf_var 0) (bf_var 3))) (EF.bf ef_int)))) (sf_for (if_rng3 (bf_var 3) (bf_var 1) (bf_var 3)) gf_name (sf_augS (bf_var 4) of_ip_sub (EF.bf (ef_op of_mulA (bf_var 3) (EF.bf (ef_op of_ix (bf_var 0) (bf_var 3))))))) sf_next))
  (sf_retN (nf_sl sn_any (bf_var 2) (pf_some (EF.bf ef_int)) pf_none)))) rfl h (fun _ => (nn_seq (nn_seq nn_ret)))⟩
def B_row_by_powers_b1 : Sx :=
  (sSeq (sAsg (xCb sumF (aCons (xLc (iZp (xLv 2) (xRev (xBo 3))) (gT 2 (gsC (gN 6) (gsC (gN 7) gsN))) xYes (xOp mulF (xBo 6) (xBo 7)) [6, 7]) aNil)) (gN 5))
  (sApp 3 (xOp fdivF (xBo 5) (xBo 4))))
def B_row_by_powers : Sx :=
  (sSeq (sIf (xT (xOp (eqF false) (xBo 1) (xC (.int 0)))) (sRet (xLst aNil)) sNext)
  (sSeq (sAsg (xCb F_sums_of (aCons (xBo 0) (aCons (xVar 1) aNil))) (gN 2))
  (sSeq (sAsg (xLst (aCons (xC (.int 1)) aNil)) (oN 3))
  (sSeq (sFor (iR (aCons (xC (.int 1)) (aCons (xBo 1) aNil))) (gN 4) B_row_by_powers_b1)
  (sRetO 3)))))
def F_row_by_powers : List D → Option D := runF 6 [true, false] B_row_by_powers

theorem ok_row_by_powers (T : Tx K mg) : FnOk P w K mg base CX0 2 T.f_row_by_powers T.fd_row_by_powers ["powers", "many"] (SpF K true [true, false] F_row_by_powers) := by
  have G_sums_of := ok_sums_of (P := P) (w := w) (base := base) T
  refine T.F_row_by_powers.ok sc_row_by_powers (fun vs H Q E h => ?_) (fun cdv A outer s H vs Q E hr h => ?_)
  · obtain ⟨S, pt, ds, d, _, _, ar, _⟩ := h
    rw [ar.len.1]; rfl
  · exact ⟨_, (pss_cons (ps_if (pt_cmpR (op_eqA hr.units) (pv 1) pe_int (nomark _)) (pss_one (ps_ret (pe_lst pa_nil))) pss_nil)
  (pss_cons (ps_set (i := 2) sc_row_by_powers.nd rfl (.inl rfl) (pe_call G_sums_of (hr.mono (by decide)) (by rfl) T.m_sums_of T.F_sums_of.kp T.b_sums_of .nil pass0 (pa_cons (pv 0) (pa_cons (pv 1) pa_nil))))
  (pss_cons (ps_set (i := 3) sc_row_by_powers.nd rfl (.inl rfl) (pe_lst (pa_cons pe_int pa_nil)))
  (pss_cons (ps_for PassesOwn.never rfl (pi_range2 (by rfl) T.z_range (pa_cons pe_int (pa_cons (pv 1) pa_nil))) (pg_name (i := 4) sc_row_by_powers.nd rfl (.inl rfl)) (pss_cons (ps_set (i := 5) sc_row_by_powers.nd rfl (.inl rfl) (pe_callB (cr_sum rfl) (by rfl) T.z_sum (by decide +kernel) (pa_cons (pe_lc (own := [("one", 6), ("number", 7)]) (g := gTup K 2 (gCons (gName 6) (gCons (gName 7) (gNil)))) (tt := tYes) (by rfl) sc_row_by_powers.nd (RZ.pi_zipA (by rfl) T.z_zip (pa_cons (pv 2) (pa_cons (pe_revL (pv 3)) pa_nil))) (blkOk_by (own := [("one", 6), ("number", 7)]) (N := ["powers", "many", "sums", "row", "place", "total", "one", "number"]) (sc := defScope s_row_by_powers) (by decide +kernel)) (fun _ _ _ _ _ => (pg_tup rfl (pgs_cons (pg_name (i := 6) sc_row_by_powers.nd rfl (.inl rfl)) (pgs_cons (pg_name (i := 7) sc_row_by_powers.nd rfl (.inl rfl)) pgs_nil)))) (fun _ _ _ _ _ => pts_nil) (fun _ _ _ _ _ => (pe_op op_mulA (pv 6) (pv 7)))) pa_nil)))
  (pss_one (ps_expr (pe_bm PySem.F.plainAttrs_list PySem.F.slot_list_append PySem.F.type_list_append mt_append (pv 3) (pa_cons (pe_op op_fdivX (pv 5) (pv 4)) pa_nil))))))
  (pss_one (ps_ret (pv 3))))))), SF.spF (b := B_row_by_powers) (n := 6) (N := ["powers", "many", "sums", "row", "place", "total", "one", "number"]) (sf_seq (sf_if (tf_test (EF.bf (ef_op of_eq (bf_var 1) (EF.bf ef_int)))) (sf_retN (nf_lst af_nil)) sf_next)
  (sf_seq (sf_asg (NF.ef (nf_call (ga_loose (bf_var 0) (ga_strict (ef_var 1) ga_nil)))) gf_name)
  (sf_seq (sf_own (nf_lst (af_cons ef_int af_nil)))
  (sf_seq (sf_for (if_rng2 (EF.bf ef_int) (bf_var 1)) gf_name (sf_seq (sf_asg (ef_cb cf_sum (ab_cons (EF.bf (NF.ef (nf_lc (if_zip (yf_var 2) (EF.yf (NF.ef (nf_rev (bf_var 3))))) (gf_tup (gsf_cons gf_name (gsf_cons gf_name (gsf_nil (vs := []))))) tf_yes (ef_op of_mulA (bf_var 6) (bf_var 7))))) ab_nil)) gf_name)
  (sf_app (ef_op of_fdiv (bf_var 5) (bf_var 4)))))
  (sf_retO 3))))) rfl h (fun _ => (nn_seq (nn_seq (nn_seq (nn_seq nn_retO)))))⟩
def B_numbers_of_b1 : Sx :=
  (sAugS 2 addI (xBo 5) (xBo 4))
def B_numbers_of_b2 : Sx :=
  (sFor (iR3 (aCons (xBo 3) (aCons (xBo 1) (aCons (xBo 3) aNil)))) (gN 5) B_numbers_of_b1)
def B_numbers_of : Sx :=
  (sSeq (sAsg (xOp repF (xLst (aCons (xC (.int 0)) aNil)) (xBo 1)) (oN 2))
  (sSeq (sFor (iA (xOp ixF (xBo 0) (xC (.int 1)))) (gT 2 (gsC (gN 3) (gsC (gN 4) gsN))) B_numbers_of_b2)
  (sRet (xCb F_row_by_powers (aCons (xBo 2) (aCons (xVar 1) aNil))))))
def F_numbers_of : List D → Option D := runF 4 [false, false] B_numbers_of

theorem ok_numbers_of (T : Tx K mg) : FnOk P w K mg base CX0 3 T.f_numbers_of T.fd_numbers_of ["product", "many"] (SpF K true [false, false] F_numbers_of) := by
  have G_row_by_powers := ok_row_by_powers (P := P) (w := w) (base := base) T
  refine T.F_numbers_of.ok sc_numbers_of (fun vs H Q E h => ?_) (fun cdv A outer s H vs Q E hr h => ?_)
  · obtain ⟨S, pt, ds, d, _, _, ar, _⟩ := h
    rw [ar.len.1]; rfl
  · exact ⟨_, (pss_cons (ps_set (i := 2) sc_numbers_of.nd rfl (.inl rfl) (pe_op op_mulA (pe_lst (pa_cons pe_int pa_nil)) (pv 1)))
  (pss_cons (ps_for PassesOwn.never rfl (pi_any (pe_ix ix_seq (pv 0) pe_int (fun _ _ => rfl))) (pg_tup rfl (pgs_cons (pg_name (i := 3) sc_numbers_of.nd rfl (.inl rfl)) (pgs_cons (pg_name (i := 4) sc_numbers_of.nd rfl (.inl rfl)) pgs_nil))) (pss_one (ps_for PassesOwn.never rfl (pi_range3 (by rfl) T.z_range (pa_cons (pv 3) (pa_cons (pv 1) (pa_cons (pv 3) pa_nil)))) (pg_name (i := 5) sc_numbers_of.nd rfl (.inl rfl)) (pss_one (ps_augS (pv 2) (pv 5) get_listG (pv 4) ip_add set_list)))))
  (pss_one (ps_ret (pe_call G_row_by_powers (hr.mono (by decide)) (by rfl) T.m_row_by_powers T.F_row_by_powers.kp T.b_row_by_powers .nil pass0 (pa_cons (pv 2) (pa_cons (pv 1) pa_nil))))))), SF.spF (b := B_numbers_of) (n := 4) (N := ["product", "many", "powers", "step", "power", "place"]) (sf_seq (sf_own (nf_op on_mulA (EF.bf (NF.ef (nf_lst (af_cons ef_int af_nil)))) (bf_var 1)))
  (sf_seq (sf_for (if_any (EF.yf (ef_op of_ix (bf_var 0) (EF.bf ef_int)))) (gf_tup (gsf_cons gf_name (gsf_cons gf_name (gsf_nil (vs := []))))) (sf_for (if_rng3 (bf_var 3) (bf_var 1) (bf_var 3)) gf_name (sf_augS (bf_var 5) of_ip_add (bf_var 4))))
  (sf_retN (nf_call (ga_loose (bf_var 2) (ga_strict (ef_var 1) ga_nil)))))) rfl h (fun _ => (nn_seq (nn_seq nn_ret)))⟩
def B_is_carried : Sx :=
  (sRet (xAndV (xChain (cmpF fun i j => decide (i ≤ j)) (cmpF fun i j => decide (i ≤ j)) (xC (.int 1)) (xOp ixF (xCb F_kind_told (aCons (xVar 1) aNil)) (xC (.int 0))) (xC (.int 24))) (xCb allF (aCons (xLc (iA (xCb F_order_parts (aCons (xVar 1) (aCons (xVar 0) aNil)))) (gN 2) xYes (xOp (cmpF fun i j => decide (j ≤ i)) (xBo 2) (xC (.int 0))) [2]) aNil))))
def F_is_carried : List D → Option D := runF 1 [false, false] B_is_carried

theorem ok_is_carried (T : Tx K mg) : FnOk P w K mg base CX0 6 T.f_is_carried T.fd_is_carried ["level", "product"] (SpF K false [false, false] F_is_carried) := by
  have G_kind_told := ok_kind_told (P := P) (w := w) (base := base) T
  have G_order_parts := ok_order_parts (P := P) (w := w) (base := base) T
  refine T.F_is_carried.ok sc_is_carried (fun vs H Q E h => ?_) (fun cdv A outer s H vs Q E hr h => ?_)
  · obtain ⟨S, pt, ds, d, _, _, ar, _⟩ := h
    rw [ar.len.1]; rfl
  · exact ⟨_, (pss_one (ps_ret (pe_and (pe_chain op_le op_le pe_int (pe_ix ix_seq (pe_call G_kind_told (hr.mono (by decide)) (by rfl) T.m_kind_told T.F_kind_told.kp T.b_kind_told .nil pass0 (pa_cons (pv 1) pa_nil)) pe_int (fun _ _ => rfl)) pe_int) (pe_one (pe_callB (cr_all rfl) (by rfl) T.z_all (by decide +kernel) (pa_cons (pe_lc (own := [("part", 2)]) (g := gName 2) (tt := tYes) (by rfl) sc_is_carried.nd (pi_any (pe_call G_order_parts (hr.mono (by decide)) (by rfl) T.m_order_parts T.F_order_parts.kp T.b_order_parts .nil pass0 (pa_cons (pv 1) (pa_cons (pv 0) pa_nil)))) (blkOk_by (own := [("part", 2)]) (N := ["level", "product", "part"]) (sc := defScope s_is_carried) (by decide +kernel)) (fun _ _ _ _ _ => pg_name (i := 2) sc_is_carried.nd rfl (.inl rfl)) (fun _ _ _ _ _ => pts_nil) (fun _ _ _ _ _ => (pe_cmpR op_ge (pv 2) pe_int (nomark _)))) pa_nil)))))), SF.spF (b := B_is_carried) (n := 1) (N := ["level", "product", "part"]) (sf_ret (ef_andV (EF.bf (ef_chain of_cmp of_cmp (EF.bf ef_int) (EF.bf (ef_op of_ix (EF.bf (ef_call (ga_strict (ef_var 1) ga_nil))) (EF.bf ef_int))) (EF.bf ef_int))) (ef_cb cf_all (ab_cons (EF.bf (NF.ef (nf_lc (if_any (EF.yf (NF.ef (nf_call (ga_strict (ef_var 1) (ga_strict (ef_var 0) ga_nil)))))) gf_name tf_yes (ef_op of_cmp (bf_var 2) (EF.bf ef_int))))) ab_nil)))) rfl h (fun z => nomatch z)⟩
def B_check_carried : Sx :=
  (sSeq (sDrop (xCb F_check_fits (aCons (xVar 1) (aCons (xVar 0) aNil))))
  (sIf (xNot (xT (xCb F_is_carried (aCons (xVar 0) (aCons (xVar 1) aNil))))) sNever sNext))
def F_check_carried : List D → Option D := runF 0 [false, false] B_check_carried

theorem ok_check_carried (T : Tx K mg) : FnOk P w K mg base CX0 7 T.f_check_carried T.fd_check_carried ["level", "product"] (SpF K false [false, false] F_check_carried) := by
  have G_check_fits := ok_check_fits (P := P) (w := w) (base := base) T
  have G_is_carried := ok_is_carried (P := P) (w := w) (base := base) T
  refine T.F_check_carried.ok sc_check_carried (fun vs H Q E h => ?_) (fun cdv A outer s H vs Q E hr h => ?_)
  · obtain ⟨S, pt, ds, d, _, _, ar, _⟩ := h
    rw [ar.len.1]; rfl
  · exact ⟨_, (pss_cons (ps_expr (pe_call G_check_fits (hr.mono (by decide)) (by rfl) T.m_check_fits T.F_check_fits.kp T.b_check_fits .nil pass0 (pa_cons (pv 1) (pa_cons (pv 0) pa_nil))))
  (pss_one (ps_if (pt_not (pt_val (pe_call G_is_carried (hr.mono (by decide)) (by rfl) T.m_is_carried T.F_is_carried.kp T.b_is_carried .nil pass0 (pa_cons (pv 0) (pa_cons (pv 1) pa_nil))))) (pss_one ps_never) pss_nil))), SF.spF (b := B_check_carried) (n := 0) (N := ["level", "product"]) (sf_seq (sf_drop (EF.bf (ef_call (ga_strict (ef_var 1) (ga_strict (ef_var 0) ga_nil)))))
  (sf_if (tf_not (tf_test (EF.bf (ef_call (ga_strict (ef_var 0) (ga_strict (ef_var 1) ga_nil)))))) sf_never sf_next)) rfl h (fun z => nomatch z)⟩
def B_first_placed : Sx :=
  (sRet (xOp fdivF (xCb F_shift_sum (aCons (xVar 0) aNil)) (xC (.int 24))))
def F_first_placed : List D → Option D := runF 0 [false] B_first_placed

theorem ok_first_placed (T : Tx K mg) : FnOk P w K mg base CX0 2 T.f_first_placed T.fd_first_placed ["product"] (SpF K false [false] F_first_placed) := by
  have G_shift_sum := ok_shift_sum (P := P) (w := w) (base := base) T
  refine T.F_first_placed.ok sc_first_placed (fun vs H Q E h => ?_) (fun cdv A outer s H vs Q E hr h => ?_)
  · obtain ⟨S, pt, ds, d, _, _, ar, _⟩ := h
    rw [ar.len.1]; rfl
  · exact ⟨_, (pss_one (ps_ret (pe_op op_fdivX (pe_call G_shift_sum (hr.mono (by decide)) (by rfl) T.m_shift_sum T.F_shift_sum.kp T.b_shift_sum .nil pass0 (pa_cons (pv 0) pa_nil)) pe_int))), SF.spF (b := B_first_placed) (n := 0) (N := ["product"]) (sf_ret (ef_op of_fdiv (EF.bf (ef_call (ga_strict (ef_var 0) ga_nil))) (EF.bf ef_int))) rfl h (fun z => nomatch z)⟩
def B_placed_numbers : Sx :=
  (sSeq (sAsg (xCb min2F (aCons (xCb F_first_placed (aCons (xVar 0) aNil)) (aCons (xBo 1) aNil))) (gN 2))
  (sRet (xOp catF (xOp mulF (xLst (aCons (xC (.int 0)) aNil)) (xBo 2)) (xCb F_numbers_of (aCons (xVar 0) (aCons (xOp subF (xBo 1) (xBo 2)) aNil))))))
def F_placed_numbers : List D → Option D := runF 1 [false, false] B_placed_numbers

theorem ok_placed_numbers (T : Tx K mg) : FnOk P w K mg base CX0 4 T.f_placed_numbers T.fd_placed_numbers ["product", "many"] (SpF K true [false, false] F_placed_numbers) := by
  have G_first_placed := ok_first_placed (P := P) (w := w) (base := base) T
  have G_numbers_of := ok_numbers_of (P := P) (w := w) (base := base) T
  refine T.F_placed_numbers.ok sc_placed_numbers (fun vs H Q E h => ?_) (fun cdv A outer s H vs Q E hr h => ?_)
  · obtain ⟨S, pt, ds, d, _, _, ar, _⟩ := h
    rw [ar.len.1]; rfl
  · exact ⟨_, (pss_cons (ps_set (i := 2) sc_placed_numbers.nd rfl (.inl rfl) (pe_callB (call_min2 rfl) (by rfl) T.z_min (by decide +kernel) (pa_cons (pe_call G_first_placed (hr.mono (by decide)) (by rfl) T.m_first_placed T.F_first_placed.kp T.b_first_placed .nil pass0 (pa_cons (pv 0) pa_nil)) (pa_cons (pv 1) pa_nil))))
  (pss_one (ps_ret (pe_op op_addA (pe_op op_mulA (pe_lst (pa_cons pe_int pa_nil)) (pv 2)) (pe_call G_numbers_of (hr.mono (by decide)) (by rfl) T.m_numbers_of T.F_numbers_of.kp T.b_numbers_of .nil pass0 (pa_cons (pv 0) (pa_cons (pe_op op_sub (pv 1) (pv 2)) pa_nil))))))), SF.spF (b := B_placed_numbers) (n := 1) (N := ["product", "many", "ahead"]) (sf_seq (sf_asg (ef_cb cf_min2 (ab_cons (EF.bf (ef_call (ga_strict (ef_var 0) ga_nil))) (ab_cons (bf_var 1) ab_nil))) gf_name)
  (sf_retN (nf_op on_addA (EF.bf (ef_op of_mulA (EF.bf (NF.ef (nf_lst (af_cons ef_int af_nil)))) (bf_var 2))) (EF.bf (NF.ef (nf_call (ga_strict (ef_var 0) (ga_strict (ef_op of_sub (bf_var 1) (bf_var 2)) ga_nil)))))))) rfl h (fun _ => (nn_seq nn_ret))⟩
def B_placed_row : Sx :=
  (sSeq (sDrop (xCb F_check_level (aCons (xVar 0) aNil)))
  (sSeq (sDrop (xCb F_check_product (aCons (xVar 1) aNil)))
  (sSeq (sDrop (xCb F_check_many (aCons (xVar 2) (aCons (xC (.int 3000)) aNil))))
  (sSeq (sDrop (xCb F_check_carried (aCons (xVar 0) (aCons (xVar 1) aNil))))
  (sSeq (sAsg (xCb F_placed_numbers (aCons (xVar 1) (aCons (xVar 2) aNil))) (oN 3))
  (sSeq (sDrop (xCb F_check_digits (aCons (xBo 3) aNil)))
  (sRetO 3)))))))
def F_placed_row : List D → Option D := runF 1 [false, false, false] B_placed_row

theorem ok_placed_row (T : Tx K mg) : FnOk P w K mg base CX0 8 T.f_placed_row T.fd_placed_row ["level", "product", "many"] (SpF K true [false, false, false] F_placed_row) := by
  have G_check_carried := ok_check_carried (P := P) (w := w) (base := base) T
  have G_check_digits := ok_check_digits (P := P) (w := w) (base := base) T
  have G_check_level := ok_check_level (P := P) (w := w) (base := base) T
  have G_check_many := ok_check_many (P := P) (w := w) (base := base) T
  have G_check_product := ok_check_product (P := P) (w := w) (base := base) T
  have G_placed_numbers := ok_placed_numbers (P := P) (w := w) (base := base) T
  refine T.F_placed_row.ok sc_placed_row (fun vs H Q E h => ?_) (fun cdv A outer s H vs Q E hr h => ?_)
  · obtain ⟨S, pt, ds, d, _, _, ar, _⟩ := h
    rw [ar.len.1]; rfl
  · exact ⟨_, (pss_cons (ps_expr (pe_call G_check_level (hr.mono (by decide)) (by rfl) T.m_check_level T.F_check_level.kp T.b_check_level .nil pass0 (pa_cons (pv 0) pa_nil)))
  (pss_cons (ps_expr (pe_call G_check_product (hr.mono (by decide)) (by rfl) T.m_check_product T.F_check_product.kp T.b_check_product .nil pass0 (pa_cons (pv 1) pa_nil)))
  (pss_cons (ps_expr (pe_call G_check_many (hr.mono (by decide)) (by rfl) T.m_check_many T.F_check_many.kp T.b_check_many .nil pass0 (pa_cons (pv 2) (pa_cons pe_int pa_nil))))
  (pss_cons (ps_expr (pe_call G_check_carried (hr.mono (by decide)) (by rfl) T.m_check_carried T.F_check_carried.kp T.b_check_carried .nil pass0 (pa_cons (pv 0) (pa_cons (pv 1) pa_nil))))
  (pss_cons (ps_set (i := 3) sc_placed_row.nd rfl (.inl rfl) (pe_call G_placed_numbers (hr.mono (by decide)) (by rfl) T.m_placed_numbers T.F_placed_numbers.kp T.b_placed_numbers .nil pass0 (pa_cons (pv 1) (pa_cons (pv 2) pa_nil))))
  (pss_cons (ps_expr (pe_call G_check_digits (hr.mono (by decide)) (by rfl) T.m_check_digits T.F_check_digits.kp T.b_check_digits .nil pass0 (pa_cons (pv 3) pa_nil)))
  (pss_one (ps_ret (pv 3))))))))), SF.spF (b := B_placed_row) (n := 1) (N := ["level", "product", "many", "row"]) (sf_seq (sf_drop (EF.bf (ef_call (ga_strict (ef_var 0) ga_nil))))
  (sf_seq (sf_drop (EF.bf (ef_call (ga_strict (ef_var 1) ga_nil))))
  (sf_seq (sf_drop (EF.bf (ef_call (ga_strict (ef_var 2) (ga_strict ef_int ga_nil)))))
  (sf_seq (sf_drop (EF.bf (ef_call (ga_strict (ef_var 0) (ga_strict (ef_var 1) ga_nil)))))
  (sf_seq (sf_own (nf_call (ga_strict (ef_var 1) (ga_strict (ef_var 2) ga_nil))))
  (sf_seq (sf_drop (EF.bf (ef_call (ga_loose (bf_var 3) ga_nil))))
  (sf_retO 3))))))) rfl h (fun _ => (nn_seq (nn_seq (nn_seq (nn_seq (nn_seq (nn_seq nn_retO)))))))⟩
def B_is_serving_prime : Sx :=
  (sRet (xAndV (xCb F_is_within (aCons (xVar 1) (aCons (xC (.int 3)) (aCons (xC (.int 97)) aNil)))) (xAndV (xCb F_is_prime (aCons (xVar 1) aNil)) (xOp (eqF true) (xOp modF (xBo 0) (xBo 1)) (xC (.int 0))))))
def F_is_serving_prime : List D → Option D := runF 0 [false, false] B_is_serving_prime

theorem ok_is_serving_prime (T : Tx K mg) : FnOk P w K mg base CX0 4 T.f_is_serving_prime T.fd_is_serving_prime ["level", "prime"] (SpF K false [false, false] F_is_serving_prime) := by
  have G_is_prime := ok_is_prime (P := P) (w := w) (base := base) T
  have G_is_within := ok_is_within (P := P) (w := w) (base := base) T
  refine T.F_is_serving_prime.ok sc_is_serving_prime (fun vs H Q E h => ?_) (fun cdv A outer s H vs Q E hr h => ?_)
  · obtain ⟨S, pt, ds, d, _, _, ar, _⟩ := h
    rw [ar.len.1]; rfl
  · exact ⟨_, (pss_one (ps_ret (pe_and (pe_call G_is_within (hr.mono (by decide)) (by rfl) T.m_is_within T.F_is_within.kp T.b_is_within .nil pass0 (pa_cons (pv 1) (pa_cons pe_int (pa_cons pe_int pa_nil)))) (pe_and (pe_call G_is_prime (hr.mono (by decide)) (by rfl) T.m_is_prime T.F_is_prime.kp T.b_is_prime .nil pass0 (pa_cons (pv 1) pa_nil)) (pe_one (pe_cmpR (op_neA hr.units) (pe_op op_modN (pv 0) (pv 1)) pe_int (nomark _))))))), SF.spF (b := B_is_serving_prime) (n := 0) (N := ["level", "prime"]) (sf_ret (ef_andV (EF.bf (ef_call (ga_strict (ef_var 1) (ga_strict ef_int (ga_strict ef_int ga_nil))))) (ef_andV (EF.bf (ef_call (ga_strict (ef_var 1) ga_nil))) (ef_op of_ne (EF.bf (ef_op of_mod (bf_var 0) (bf_var 1))) (EF.bf ef_int))))) rfl h (fun z => nomatch z)⟩
def B_check_prime : Sx :=
  (sIf (xNot (xT (xCb F_is_serving_prime (aCons (xVar 0) (aCons (xVar 1) aNil))))) sNever sNext)
def F_check_prime : List D → Option D := runF 0 [false, false] B_check_prime

theorem ok_check_prime (T : Tx K mg) : FnOk P w K mg base CX0 5 T.f_check_prime T.fd_check_prime ["level", "prime"] (SpF K false [false, false] F_check_prime) := by
  have G_is_serving_prime := ok_is_serving_prime (P := P) (w := w) (base := base) T
  refine T.F_check_prime.ok sc_check_prime (fun vs H Q E h => ?_) (fun cdv A outer s H vs Q E hr h => ?_)
  · obtain ⟨S, pt, ds, d, _, _, ar, _⟩ := h
    rw [ar.len.1]; rfl
  · exact ⟨_, (pss_one (ps_if (pt_not (pt_val (pe_call G_is_serving_prime (hr.mono (by decide)) (by rfl) T.m_is_serving_prime T.F_is_serving_prime.kp T.b_is_serving_prime .nil pass0 (pa_cons (pv 0) (pa_cons (pv 1) pa_nil))))) (pss_one ps_never) pss_nil)), SF.spF (b := B_check_prime) (n := 0) (N := ["level", "prime"]) (sf_if (tf_not (tf_test (EF.bf (ef_call (ga_strict (ef_var 0) (ga_strict (ef_var 1) ga_nil)))))) sf_never sf_next) rfl h (fun z => nomatch z)⟩
def B_carried_by_b1 : Sx :=
  (sAug 4 mulI (xBo 1))
def B_carried_by : Sx :=
  (sSeq (sAsg (xCb F_kind_told (aCons (xVar 0) aNil)) (gT 2 (gsC (gN 2) (gsC (gN 3) gsN))))
  (sSeq (sAsg (xCb F_symbol (aCons (xVar 3) (aCons (xVar 1) aNil))) (gN 4))
  (sSeq (sFor (iR (aCons (xOp subF (xBo 2) (xC (.int 1))) aNil)) (gN 5) B_carried_by_b1)
  (sRet (xVar 4)))))
def F_carried_by : List D → Option D := runF 4 [false, false] B_carried_by

theorem ok_carried_by (T : Tx K mg) : FnOk P w K mg base CX0 5 T.f_carried_by T.fd_carried_by ["product", "prime"] (SpF K false [false, false] F_carried_by) := by
  have G_kind_told := ok_kind_told (P := P) (w := w) (base := base) T
  have G_symbol := ok_symbol (P := P) (w := w) (base := base) T
  refine T.F_carried_by.ok sc_carried_by (fun vs H Q E h => ?_) (fun cdv A outer s H vs Q E hr h => ?_)
  · obtain ⟨S, pt, ds, d, _, _, ar, _⟩ := h
    rw [ar.len.1]; rfl
  · exact ⟨_, (pss_cons (ps_asg (pe_call G_kind_told (hr.mono (by decide)) (by rfl) T.m_kind_told T.F_kind_told.kp T.b_kind_told .nil pass0 (pa_cons (pv 0) pa_nil)) (pg_tup rfl (pgs_cons (pg_name (i := 2) sc_carried_by.nd rfl (.inl rfl)) (pgs_cons (pg_name (i := 3) sc_carried_by.nd rfl (.inl rfl)) pgs_nil))))
  (pss_cons (ps_set (i := 4) sc_carried_by.nd rfl (.inl rfl) (pe_call G_symbol (hr.mono (by decide)) (by rfl) T.m_symbol T.F_symbol.kp T.b_symbol .nil pass0 (pa_cons (pv 3) (pa_cons (pv 1) pa_nil))))
  (pss_cons (ps_for PassesOwn.never rfl (pi_range1 (by rfl) T.z_range (pa_cons (pe_op op_sub (pv 2) pe_int) pa_nil)) (pg_name (i := 5) sc_carried_by.nd rfl (.inl rfl)) (pss_one (ps_aug (i := 4) sc_carried_by.nd rfl (.inl rfl) (pv 1) iop_mulX)))
  (pss_one (ps_ret (pv 4)))))), SF.spF (b := B_carried_by) (n := 4) (N := ["product", "prime", "weight", "sign", "factor", "_"]) (sf_seq (sf_asg (ef_call (ga_strict (ef_var 0) ga_nil)) (gf_tup (gsf_cons gf_name (gsf_cons gf_name (gsf_nil (vs := []))))))
  (sf_seq (sf_asg (ef_call (ga_strict (ef_var 3) (ga_strict (ef_var 1) ga_nil))) gf_name)
  (sf_seq (sf_for (if_rng1 (EF.bf (ef_op of_sub (bf_var 2) (EF.bf ef_int)))) gf_name (sf_aug of_mulI (bf_var 1)))
  (sf_ret (ef_var 4))))) rfl h (fun z => nomatch z)⟩
def B_carried_numbers_b1 : Sx :=
  (sAugS 4 addI (xBo 6) (xOp mulF (xBo 5) (xOp ixF (xBo 1) (xOp fdivF (xBo 6) (xBo 2)))))
def B_carried_numbers : Sx :=
  (sSeq (sAsg (xSt (xBo 1) xPn (xPo (xOp mulF (xBo 2) (xBo 3))) (xPo (xBo 2))) (oN 4))
  (sSeq (sAsg (xCb F_carried_by (aCons (xVar 0) (aCons (xVar 2) aNil))) (gN 5))
  (sSeq (sFor (iR3 (aCons (xC (.int 0)) (aCons (xBo 3) (aCons (xBo 2) aNil)))) (gN 6) B_carried_numbers_b1)
  (sRetO 4))))
def F_carried_numbers : List D → Option D := runF 3 [false, false, false, false] B_carried_numbers

theorem ok_carried_numbers (T : Tx K mg) : FnOk P w K mg base CX0 6 T.f_carried_numbers T.fd_carried_numbers ["product", "placed", "prime", "many"] (SpF K true [false, false, false, false] F_carried_numbers) := by
  have G_carried_by := ok_carried_by (P := P) (w := w) (base := base) T
  refine T.F_carried_numbers.ok sc_carried_numbers (fun vs H Q E h => ?_) (fun cdv A outer s H vs Q E hr h => ?_)
  · obtain ⟨S, pt, ds, d, _, _, ar, _⟩ := h
    rw [ar.len.1]; rfl
  · exact ⟨_, (pss_cons (ps_set (i := 4) sc_carried_numbers.nd rfl (.inl rfl) (pe_stL (pv 1) po_none (po_some (pe_op op_mulA (pv 2) (pv 3))) (po_some (pv 2))))
  (pss_cons (ps_set (i := 5) sc_carried_numbers.nd rfl (.inl rfl) (pe_call G_carried_by (hr.mono (by decide)) (by rfl) T.m_carried_by T.F_carried_by.kp T.b_carried_by .nil pass0 (pa_cons (pv 0) (pa_cons (pv 2) pa_nil))))
  (pss_cons (ps_for PassesOwn.never rfl (pi_range3 (by rfl) T.z_range (pa_cons pe_int (pa_cons (pv 3) (pa_cons (pv 2) pa_nil)))) (pg_name (i := 6) sc_carried_numbers.nd rfl (.inl rfl)) (pss_one (ps_augS (pv 4) (pv 6) get_listG (pe_op op_mulA (pv 5) (pe_ix ix_seq (pv 1) (pe_op op_fdivX (pv 6) (pv 2)) (fun _ _ => rfl))) ip_add set_list)))
  (pss_one (ps_ret (pv 4)))))), SF.spF (b := B_carried_numbers) (n := 3) (N := ["product", "placed", "prime", "many", "row", "factor", "place"]) (sf_seq (sf_own (nf_st (bf_var 1) pf_none (pf_some (EF.bf (ef_op of_mulA (bf_var 2) (bf_var 3)))) (pf_some (bf_var 2))))
  (sf_seq (sf_asg (ef_call (ga_strict (ef_var 0) (ga_strict (ef_var 2) ga_nil))) gf_name)
  (sf_seq (sf_for (if_rng3 (EF.bf ef_int) (bf_var 3) (bf_var 2)) gf_name (sf_augS (bf_var 6) of_ip_add (EF.bf (ef_op of_mulA (bf_var 5) (EF.bf (ef_op of_ix (bf_var 1) (EF.bf (ef_op of_fdiv (bf_var 6) (bf_var 2)))))))))
  (sf_retO 4)))) rfl h (fun _ => (nn_seq (nn_seq (nn_seq nn_retO))))⟩
def B_carried_row : Sx :=
  (sSeq (sDrop (xCb F_check_level (aCons (xVar 0) aNil)))
  (sSeq (sDrop (xCb F_check_product (aCons (xVar 1) aNil)))
  (sSeq (sDrop (xCb F_check_prime (aCons (xVar 0) (aCons (xVar 2) aNil))))
  (sSeq (sDrop (xCb F_check_many (aCons (xVar 3) (aCons (xC (.int 3000)) aNil))))
  (sSeq (sDrop (xCb F_check_carried (aCons (xVar 0) (aCons (xVar 1) aNil))))
  (sSeq (sIf (xT (xOp (cmpF fun i j => decide (j < i)) (xOp mulF (xBo 2) (xOp subF (xBo 3) (xC (.int 1)))) (xC (.int 3000)))) sNever sNext)
  (sSeq (sAsg (xCb F_carried_numbers (aCons (xVar 1) (aCons (xCb F_placed_numbers (aCons (xVar 1) (aCons (xOp mulF (xBo 2) (xBo 3)) aNil))) (aCons (xVar 2) (aCons (xVar 3) aNil))))) (oN 4))
  (sSeq (sDrop (xCb F_check_digits (aCons (xBo 4) aNil)))
  (sRetO 4)))))))))
def F_carried_row : List D → Option D := runF 1 [false, false, false, false] B_carried_row

theorem ok_carried_row (T : Tx K mg) : FnOk P w K mg base CX0 8 T.f_carried_row T.fd_carried_row ["level", "product", "prime", "many"] (SpF K true [false, false, false, false] F_carried_row) := by
  have G_carried_numbers := ok_carried_numbers (P := P) (w := w) (base := base) T
  have G_check_carried := ok_check_carried (P := P) (w := w) (base := base) T
  have G_check_digits := ok_check_digits (P := P) (w := w) (base := base) T
  have G_check_level := ok_check_level (P := P) (w := w) (base := base) T
  have G_check_many := ok_check_many (P := P) (w := w) (base := base) T
  have G_check_prime := ok_check_prime (P := P) (w := w) (base := base) T
  have G_check_product := ok_check_product (P := P) (w := w) (base := base) T
  have G_placed_numbers := ok_placed_numbers (P := P) (w := w) (base := base) T
  refine T.F_carried_row.ok sc_carried_row (fun vs H Q E h => ?_) (fun cdv A outer s H vs Q E hr h => ?_)
  · obtain ⟨S, pt, ds, d, _, _, ar, _⟩ := h
    rw [ar.len.1]; rfl
  · exact ⟨_, (pss_cons (ps_expr (pe_call G_check_level (hr.mono (by decide)) (by rfl) T.m_check_level T.F_check_level.kp T.b_check_level .nil pass0 (pa_cons (pv 0) pa_nil)))
  (pss_cons (ps_expr (pe_call G_check_product (hr.mono (by decide)) (by rfl) T.m_check_product T.F_check_product.kp T.b_check_product .nil pass0 (pa_cons (pv 1) pa_nil)))
  (pss_cons (ps_expr (pe_call G_check_prime (hr.mono (by decide)) (by rfl) T.m_check_prime T.F_check_prime.kp T.b_check_prime .nil pass0 (pa_cons (pv 0) (pa_cons (pv 2) pa_nil))))
  (pss_cons (ps_expr (pe_call G_check_many (hr.mono (by decide)) (by rfl) T.m_check_many T.F_check_many.kp T.b_check_many .nil pass0 (pa_cons (pv 3) (pa_cons pe_int pa_nil))))
  (pss_cons (ps_expr (pe_call G_check_carried (hr.mono (by decide)) (by rfl) T.m_check_carried T.F_check_carried.kp T.b_check_carried .nil pass0 (pa_cons (pv 0) (pa_cons (pv 1) pa_nil))))
  (pss_cons (ps_if (pt_cmpR op_gt (pe_op op_mulA (pv 2) (pe_op op_sub (pv 3) pe_int)) pe_int (nomark _)) (pss_one ps_never) pss_nil)
  (pss_cons (ps_set (i := 4) sc_carried_row.nd rfl (.inl rfl) (pe_call G_carried_numbers (hr.mono (by decide)) (by rfl) T.m_carried_numbers T.F_carried_numbers.kp T.b_carried_numbers .nil pass0 (pa_cons (pv 1) (pa_cons (pe_call G_placed_numbers (hr.mono (by decide)) (by rfl) T.m_placed_numbers T.F_placed_numbers.kp T.b_placed_numbers .nil pass0 (pa_cons (pv 1) (pa_cons (pe_op op_mulA (pv 2) (pv 3)) pa_nil))) (pa_cons (pv 2) (pa_cons (pv 3) pa_nil))))))
  (pss_cons (ps_expr (pe_call G_check_digits (hr.mono (by decide)) (by rfl) T.m_check_digits T.F_check_digits.kp T.b_check_digits .nil pass0 (pa_cons (pv 4) pa_nil)))
  (pss_one (ps_ret (pv 4))))))))))), SF.spF (b := B_carried_row) (n := 1) (N := ["level", "product", "prime", "many", "row"]) (sf_seq (sf_drop (EF.bf (ef_call (ga_strict (ef_var 0) ga_nil))))
  (sf_seq (sf_drop (EF.bf (ef_call (ga_strict (ef_var 1) ga_nil))))
  (sf_seq (sf_drop (EF.bf (ef_call (ga_strict (ef_var 0) (ga_strict (ef_var 2) ga_nil)))))
  (sf_seq (sf_drop (EF.bf (ef_call (ga_strict (ef_var 3) (ga_strict ef_int ga_nil)))))
  (sf_seq (sf_drop (EF.bf (ef_call (ga_strict (ef_var 0) (ga_strict (ef_var 1) ga_nil)))))
  (sf_seq (sf_if (tf_test (EF.bf (ef_op of_cmp (EF.bf (ef_op of_mulA (bf_var 2) (EF.bf (ef_op of_sub (bf_var 3) (EF.bf ef_int))))) (EF.bf ef_int)))) sf_never sf_next)
  (sf_seq (sf_own (nf_call (ga_strict (ef_var 1) (ga_strict (NF.ef (nf_call (ga_strict (ef_var 1) (ga_strict (ef_op of_mulA (bf_var 2) (bf_var 3)) ga_nil)))) (ga_strict (ef_var 2) (ga_strict (ef_var 3) ga_nil))))))
  (sf_seq (sf_drop (EF.bf (ef_call (ga_loose (bf_var 4) ga_nil))))
  (sf_retO 4))))))))) rfl h (fun _ => (nn_seq (nn_seq (nn_seq (nn_seq (nn_seq (nn_seq (nn_seq (nn_seq nn_retO)))))))))⟩
def B_symbol_at : Sx :=
  (sSeq (sDrop (xCb F_check_level (aCons (xVar 0) aNil)))
  (sSeq (sDrop (xCb F_check_product (aCons (xVar 1) aNil)))
  (sSeq (sDrop (xCb F_check_prime (aCons (xVar 0) (aCons (xVar 2) aNil))))
  (sSeq (sDrop (xCb F_check_carried (aCons (xVar 0) (aCons (xVar 1) aNil))))
  (sRet (xCb F_symbol (aCons (xOp ixF (xCb F_kind_told (aCons (xVar 1) aNil)) (xC (.int 1))) (aCons (xVar 2) aNil))))))))
def F_symbol_at : List D → Option D := runF 0 [false, false, false] B_symbol_at

theorem ok_symbol_at (T : Tx K mg) : FnOk P w K mg base CX0 8 T.f_symbol_at T.fd_symbol_at ["level", "product", "prime"] (SpF K false [false, false, false] F_symbol_at) := by
  have G_check_carried := ok_check_carried (P := P) (w := w) (base := base) T
  have G_check_level := ok_check_level (P := P) (w := w) (base := base) T
  have G_check_prime := ok_check_prime (P := P) (w := w) (base := base) T
  have G_check_product := ok_check_product (P := P) (w := w) (base := base) T
  have G_kind_told := ok_kind_told (P := P) (w := w) (base := base) T
  have G_symbol := ok_symbol (P := P) (w := w) (base := base) T
  refine T.F_symbol_at.ok sc_symbol_at (fun vs H Q E h => ?_) (fun cdv A outer s H vs Q E hr h => ?_)
  · obtain ⟨S, pt, ds, d, _, _, ar, _⟩ := h
    rw [ar.len.1]; rfl
  · exact ⟨_, (pss_cons (ps_expr (pe_call G_check_level (hr.mono (by decide)) (by rfl) T.m_check_level T.F_check_level.kp T.b_check_level .nil pass0 (pa_cons (pv 0) pa_nil)))
  (pss_cons (ps_expr (pe_call G_check_product (hr.mono (by decide)) (by rfl) T.m_check_product T.F_check_product.kp T.b_check_product .nil pass0 (pa_cons (pv 1) pa_nil)))
  (pss_cons (ps_expr (pe_call G_check_prime (hr.mono (by decide)) (by rfl) T.m_check_prime T.F_check_prime.kp T.b_check_prime .nil pass0 (pa_cons (pv 0) (pa_cons (pv 2) pa_nil))))
  (pss_cons (ps_expr (pe_call G_check_carried (hr.mono (by decide)) (by rfl) T.m_check_carried T.F_check_carried.kp T.b_check_carried .nil pass0 (pa_cons (pv 0) (pa_cons (pv 1) pa_nil))))
  (pss_one (ps_ret (pe_call G_symbol (hr.mono (by decide)) (by rfl) T.m_symbol T.F_symbol.kp T.b_symbol .nil pass0 (pa_cons (pe_ix ix_seq (pe_call G_kind_told (hr.mono (by decide)) (by rfl) T.m_kind_told T.F_kind_told.kp T.b_kind_told .nil pass0 (pa_cons (pv 1) pa_nil)) pe_int (fun _ _ => rfl)) (pa_cons (pv 2) pa_nil))))))))), SF.spF (b := B_symbol_at) (n := 0) (N := ["level", "product", "prime"]) (sf_seq (sf_drop (EF.bf (ef_call (ga_strict (ef_var 0) ga_nil))))
  (sf_seq (sf_drop (EF.bf (ef_call (ga_strict (ef_var 1) ga_nil))))
  (sf_seq (sf_drop (EF.bf (ef_call (ga_strict (ef_var 0) (ga_strict (ef_var 2) ga_nil)))))
  (sf_seq (sf_drop (EF.bf (ef_call (ga_strict (ef_var 0) (ga_strict (ef_var 1) ga_nil)))))
  (sf_ret (ef_call (ga_strict (ef_op of_ix (EF.bf (ef_call (ga_strict (ef_var 1) ga_nil))) (EF.bf ef_int)) (ga_strict (ef_var 2) ga_nil)))))))) rfl h (fun z => nomatch z)⟩
def B_last_asked : Sx :=
  (sRet (xOp fdivF (xOp mulF (xOp ixF (xCb F_kind_told (aCons (xVar 1) aNil)) (xC (.int 0))) (xCb F_index_of (aCons (xVar 0) aNil))) (xC (.int 12))))
def F_last_asked : List D → Option D := runF 0 [false, false] B_last_asked

theorem ok_last_asked (T : Tx K mg) : FnOk P w K mg base CX0 5 T.f_last_asked T.fd_last_asked ["level", "product"] (SpF K false [false, false] F_last_asked) := by
  have G_index_of := ok_index_of (P := P) (w := w) (base := base) T
  have G_kind_told := ok_kind_told (P := P) (w := w) (base := base) T
  refine T.F_last_asked.ok sc_last_asked (fun vs H Q E h => ?_) (fun cdv A outer s H vs Q E hr h => ?_)
  · obtain ⟨S, pt, ds, d, _, _, ar, _⟩ := h
    rw [ar.len.1]; rfl
  · exact ⟨_, (pss_one (ps_ret (pe_op op_fdivX (pe_op op_mulA (pe_ix ix_seq (pe_call G_kind_told (hr.mono (by decide)) (by rfl) T.m_kind_told T.F_kind_told.kp T.b_kind_told .nil pass0 (pa_cons (pv 1) pa_nil)) pe_int (fun _ _ => rfl)) (pe_call G_index_of (hr.mono (by decide)) (by rfl) T.m_index_of T.F_index_of.kp T.b_index_of .nil pass0 (pa_cons (pv 0) pa_nil))) pe_int))), SF.spF (b := B_last_asked) (n := 0) (N := ["level", "product"]) (sf_ret (ef_op of_fdiv (EF.bf (ef_op of_mulA (EF.bf (ef_op of_ix (EF.bf (ef_call (ga_strict (ef_var 1) ga_nil))) (EF.bf ef_int))) (EF.bf (ef_call (ga_strict (ef_var 0) ga_nil))))) (EF.bf ef_int))) rfl h (fun z => nomatch z)⟩
def B_places_asked : Sx :=
  (sSeq (sDrop (xCb F_check_level (aCons (xVar 0) aNil)))
  (sSeq (sDrop (xCb F_check_product (aCons (xVar 1) aNil)))
  (sSeq (sDrop (xCb F_check_carried (aCons (xVar 0) (aCons (xVar 1) aNil))))
  (sRet (xCb F_last_asked (aCons (xVar 0) (aCons (xVar 1) aNil)))))))
def F_places_asked : List D → Option D := runF 0 [false, false] B_places_asked

theorem ok_places_asked (T : Tx K mg) : FnOk P w K mg base CX0 8 T.f_places_asked T.fd_places_asked ["level", "product"] (SpF K false [false, false] F_places_asked) := by
  have G_check_carried := ok_check_carried (P := P) (w := w) (base := base) T
  have G_check_level := ok_check_level (P := P) (w := w) (base := base) T
  have G_check_product := ok_check_product (P := P) (w := w) (base := base) T
  have G_last_asked := ok_last_asked (P := P) (w := w) (base := base) T
  refine T.F_places_asked.ok sc_places_asked (fun vs H Q E h => ?_) (fun cdv A outer s H vs Q E hr h => ?_)
  · obtain ⟨S, pt, ds, d, _, _, ar, _⟩ := h
    rw [ar.len.1]; rfl
  · exact ⟨_, (pss_cons (ps_expr (pe_call G_check_level (hr.mono (by decide)) (by rfl) T.m_check_level T.F_check_level.kp T.b_check_level .nil pass0 (pa_cons (pv 0) pa_nil)))
  (pss_cons (ps_expr (pe_call G_check_product (hr.mono (by decide)) (by rfl) T.m_check_product T.F_check_product.kp T.b_check_product .nil pass0 (pa_cons (pv 1) pa_nil)))
  (pss_cons (ps_expr (pe_call G_check_carried (hr.mono (by decide)) (by rfl) T.m_check_carried T.F_check_carried.kp T.b_check_carried .nil pass0 (pa_cons (pv 0) (pa_cons (pv 1) pa_nil))))
  (pss_one (ps_ret (pe_call G_last_asked (hr.mono (by decide)) (by rfl) T.m_last_asked T.F_last_asked.kp T.b_last_asked .nil pass0 (pa_cons (pv 0) (pa_cons (pv 1) pa_nil)))))))), SF.spF (b := B_places_asked) (n := 0) (N := ["level", "product"]) (sf_seq (sf_drop (EF.bf (ef_call (ga_strict (ef_var 0) ga_nil))))
  (sf_seq (sf_drop (EF.bf (ef_call (ga_strict (ef_var 1) ga_nil))))
  (sf_seq (sf_drop (EF.bf (ef_call (ga_strict (ef_var 0) (ga_strict (ef_var 1) ga_nil)))))
  (sf_ret (ef_call (ga_strict (ef_var 0) (ga_strict (ef_var 1) ga_nil))))))) rfl h (fun z => nomatch z)⟩
def B_check_asked : Sx :=
  (sSeq (sDrop (xCb F_check_level (aCons (xVar 0) aNil)))
  (sSeq (sDrop (xCb F_check_product (aCons (xVar 1) aNil)))
  (sDrop (xCb F_check_prime (aCons (xVar 0) (aCons (xVar 2) aNil))))))
def F_check_asked : List D → Option D := runF 0 [false, false, false] B_check_asked

theorem ok_check_asked (T : Tx K mg) : FnOk P w K mg base CX0 6 T.f_check_asked T.fd_check_asked ["level", "product", "prime"] (SpF K false [false, false, false] F_check_asked) := by
  have G_check_level := ok_check_level (P := P) (w := w) (base := base) T
  have G_check_prime := ok_check_prime (P := P) (w := w) (base := base) T
  have G_check_product := ok_check_product (P := P) (w := w) (base := base) T
  refine T.F_check_asked.ok sc_check_asked (fun vs H Q E h => ?_) (fun cdv A outer s H vs Q E hr h => ?_)
  · obtain ⟨S, pt, ds, d, _, _, ar, _⟩ := h
    rw [ar.len.1]; rfl
  · exact ⟨_, (pss_cons (ps_expr (pe_call G_check_level (hr.mono (by decide)) (by rfl) T.m_check_level T.F_check_level.kp T.b_check_level .nil pass0 (pa_cons (pv 0) pa_nil)))
  (pss_cons (ps_expr (pe_call G_check_product (hr.mono (by decide)) (by rfl) T.m_check_product T.F_check_product.kp T.b_check_product .nil pass0 (pa_cons (pv 1) pa_nil)))
  (pss_one (ps_expr (pe_call G_check_prime (hr.mono (by decide)) (by rfl) T.m_check_prime T.F_check_prime.kp T.b_check_prime .nil pass0 (pa_cons (pv 0) (pa_cons (pv 2) pa_nil))))))), SF.spF (b := B_check_asked) (n := 0) (N := ["level", "product", "prime"]) (sf_seq (sf_drop (EF.bf (ef_call (ga_strict (ef_var 0) ga_nil))))
  (sf_seq (sf_drop (EF.bf (ef_call (ga_strict (ef_var 1) ga_nil))))
  (sf_drop (EF.bf (ef_call (ga_strict (ef_var 0) (ga_strict (ef_var 2) ga_nil))))))) rfl h (fun z => nomatch z)⟩
def B_check_places : Sx :=
  (sIf (xT (xOp (cmpF fun i j => decide (j < i)) (xOp mulF (xBo 2) (xCb F_last_asked (aCons (xVar 0) (aCons (xVar 1) aNil)))) (xC (.int 3000)))) sNever sNext)
def F_check_places : List D → Option D := runF 0 [false, false, false] B_check_places

theorem ok_check_places (T : Tx K mg) : FnOk P w K mg base CX0 6 T.f_check_places T.fd_check_places ["level", "product", "prime"] (SpF K false [false, false, false] F_check_places) := by
  have G_last_asked := ok_last_asked (P := P) (w := w) (base := base) T
  refine T.F_check_places.ok sc_check_places (fun vs H Q E h => ?_) (fun cdv A outer s H vs Q E hr h => ?_)
  · obtain ⟨S, pt, ds, d, _, _, ar, _⟩ := h
    rw [ar.len.1]; rfl
  · exact ⟨_, (pss_one (ps_if (pt_cmpR op_gt (pe_op op_mulA (pv 2) (pe_call G_last_asked (hr.mono (by decide)) (by rfl) T.m_last_asked T.F_last_asked.kp T.b_last_asked .nil pass0 (pa_cons (pv 0) (pa_cons (pv 1) pa_nil)))) pe_int (nomark _)) (pss_one ps_never) pss_nil)), SF.spF (b := B_check_places) (n := 0) (N := ["level", "product", "prime"]) (sf_if (tf_test (EF.bf (ef_op of_cmp (EF.bf (ef_op of_mulA (bf_var 2) (EF.bf (ef_call (ga_strict (ef_var 0) (ga_strict (ef_var 1) ga_nil)))))) (EF.bf ef_int)))) sf_never sf_next) rfl h (fun z => nomatch z)⟩
def B_first_beside_b1 : Sx :=
  (sIf (xT (xOp (eqF true) (xBo 4) (xOp mulF (xBo 2) (xOp ixF (xBo 0) (xBo 3))))) (sRet (xVar 3)) sNext)
def B_first_beside : Sx :=
  (sSeq (sFor (iEn (xLv 1)) (gT 2 (gsC (gN 3) (gsC (gN 4) gsN))) B_first_beside_b1)
  (sRet (xC .none)))
def F_first_beside : List D → Option D := runF 2 [false, false, false] B_first_beside

theorem ok_first_beside (T : Tx K mg) : FnOk P w K mg base CX0 1 T.f_first_beside T.fd_first_beside ["placed", "carried", "number"] (SpF K false [false, false, false] F_first_beside) := by

  refine T.F_first_beside.ok sc_first_beside (fun vs H Q E h => ?_) (fun cdv A outer s H vs Q E hr h => ?_)
  · obtain ⟨S, pt, ds, d, _, _, ar, _⟩ := h
    rw [ar.len.1]; rfl
  · exact ⟨_, (pss_cons (ps_for PassesOwn.never rfl (pi_enum (by rfl) T.z_enumerate (pa_cons (pv 1) pa_nil)) (pg_tup rfl (pgs_cons (pg_name (i := 3) sc_first_beside.nd rfl (.inl rfl)) (pgs_cons (pg_name (i := 4) sc_first_beside.nd rfl (.inl rfl)) pgs_nil))) (pss_one (ps_if (pt_cmpR (op_neA hr.units) (pv 4) (pe_op op_mulA (pv 2) (pe_ix ix_seq (pv 0) (pv 3) (fun _ _ => rfl))) (nomark _)) (pss_one (ps_ret (pv 3))) pss_nil)))
  (pss_one (ps_ret pe_non))), SF.spF (b := B_first_beside) (n := 2) (N := ["placed", "carried", "number", "place", "told"]) (sf_seq (sf_for (if_enum (lf_var 1)) (gf_tup (gsf_cons gf_name (gsf_cons gf_name (gsf_nil (vs := []))))) (sf_if (tf_test (EF.bf (ef_op of_ne (bf_var 4) (EF.bf (ef_op of_mulA (bf_var 2) (EF.bf (ef_op of_ix (bf_var 0) (bf_var 3)))))))) (sf_ret (ef_var 3)) sf_next))
  (sf_ret ef_non)) rfl h (fun z => nomatch z)⟩
def B_decided : Sx :=
  (sSeq (sAsg (xCb F_carried_numbers (aCons (xVar 1) (aCons (xVar 3) (aCons (xVar 2) (aCons (xOp addF (xCb F_last_asked (aCons (xVar 0) (aCons (xVar 1) aNil))) (xC (.int 1))) aNil))))) (gN 4))
  (sSeq (sAsg (xOp ixF (xBo 4) (xCb F_first_placed (aCons (xVar 1) aNil))) (gN 5))
  (sSeq (sAsg (xCb F_first_beside (aCons (xVar 3) (aCons (xVar 4) (aCons (xVar 5) aNil)))) (gN 6))
  (sRet (xIf (xT (xOp (isNF false) (xBo 6) (xC .none))) (xTup (aCons (xC (.str "multiple")) (aCons (xVar 5) aNil))) (xTup (aCons (xC (.str "place")) (aCons (xVar 6) (aCons (xOp subF (xOp ixF (xBo 4) (xBo 6)) (xOp mulF (xBo 5) (xOp ixF (xBo 3) (xBo 6)))) aNil)))))))))
def F_decided : List D → Option D := runF 3 [false, false, false, false] B_decided

theorem ok_decided (T : Tx K mg) : FnOk P w K mg base CX0 7 T.f_decided T.fd_decided ["level", "product", "prime", "placed"] (SpF K false [false, false, false, false] F_decided) := by
  have G_carried_numbers := ok_carried_numbers (P := P) (w := w) (base := base) T
  have G_first_beside := ok_first_beside (P := P) (w := w) (base := base) T
  have G_first_placed := ok_first_placed (P := P) (w := w) (base := base) T
  have G_last_asked := ok_last_asked (P := P) (w := w) (base := base) T
  refine T.F_decided.ok sc_decided (fun vs H Q E h => ?_) (fun cdv A outer s H vs Q E hr h => ?_)
  · obtain ⟨S, pt, ds, d, _, _, ar, _⟩ := h
    rw [ar.len.1]; rfl
  · exact ⟨_, (pss_cons (ps_set (i := 4) sc_decided.nd rfl (.inl rfl) (pe_call G_carried_numbers (hr.mono (by decide)) (by rfl) T.m_carried_numbers T.F_carried_numbers.kp T.b_carried_numbers .nil pass0 (pa_cons (pv 1) (pa_cons (pv 3) (pa_cons (pv 2) (pa_cons (pe_op op_addA (pe_call G_last_asked (hr.mono (by decide)) (by rfl) T.m_last_asked T.F_last_asked.kp T.b_last_asked .nil pass0 (pa_cons (pv 0) (pa_cons (pv 1) pa_nil))) pe_int) pa_nil))))))
  (pss_cons (ps_set (i := 5) sc_decided.nd rfl (.inl rfl) (pe_ix ix_seq (pv 4) (pe_call G_first_placed (hr.mono (by decide)) (by rfl) T.m_first_placed T.F_first_placed.kp T.b_first_placed .nil pass0 (pa_cons (pv 1) pa_nil)) (fun _ _ => rfl)))
  (pss_cons (ps_set (i := 6) sc_decided.nd rfl (.inl rfl) (pe_call G_first_beside (hr.mono (by decide)) (by rfl) T.m_first_beside T.F_first_beside.kp T.b_first_beside .nil pass0 (pa_cons (pv 3) (pa_cons (pv 4) (pa_cons (pv 5) pa_nil)))))
  (pss_one (ps_ret (pe_ifExp (pt_cmpR op_isN (pv 6) pe_non (nomark _)) (pe_tup (pa_cons pe_str (pa_cons (pv 5) pa_nil))) (pe_tup (pa_cons pe_str (pa_cons (pv 6) (pa_cons (pe_op op_sub (pe_ix ix_seq (pv 4) (pv 6) (fun _ _ => rfl)) (pe_op op_mulA (pv 5) (pe_ix ix_seq (pv 3) (pv 6) (fun _ _ => rfl)))) pa_nil)))))))))), SF.spF (b := B_decided) (n := 3) (N := ["level", "product", "prime", "placed", "carried", "number", "place"]) (sf_seq (sf_asg (NF.ef (nf_call (ga_strict (ef_var 1) (ga_strict (ef_var 3) (ga_strict (ef_var 2) (ga_strict (ef_op of_addA (EF.bf (ef_call (ga_strict (ef_var 0) (ga_strict (ef_var 1) ga_nil)))) (EF.bf ef_int)) ga_nil)))))) gf_name)
  (sf_seq (sf_asg (ef_op of_ix (bf_var 4) (EF.bf (ef_call (ga_strict (ef_var 1) ga_nil)))) gf_name)
  (sf_seq (sf_asg (ef_call (ga_strict (ef_var 3) (ga_strict (ef_var 4) (ga_strict (ef_var 5) ga_nil)))) gf_name)
  (sf_ret (ef_if (tf_test (EF.bf (ef_op of_isN (bf_var 6) (EF.bf ef_non)))) (ef_tup (af_cons ef_str (af_cons (ef_var 5) af_nil))) (ef_tup (af_cons ef_str (af_cons (ef_var 6) (af_cons (ef_op of_sub (EF.bf (ef_op of_ix (bf_var 4) (bf_var 6))) (EF.bf (ef_op of_mulA (bf_var 5) (EF.bf (ef_op of_ix (bf_var 3) (bf_var 6)))))) af_nil))))))))) rfl h (fun z => nomatch z)⟩
def B_placed_to : Sx :=
  (sRet (xCb F_placed_numbers (aCons (xVar 1) (aCons (xOp addF (xOp mulF (xBo 2) (xCb F_last_asked (aCons (xVar 0) (aCons (xVar 1) aNil)))) (xC (.int 1))) aNil))))
def F_placed_to : List D → Option D := runF 0 [false, false, false] B_placed_to

theorem ok_placed_to (T : Tx K mg) : FnOk P w K mg base CX0 6 T.f_placed_to T.fd_placed_to ["level", "product", "prime"] (SpF K true [false, false, false] F_placed_to) := by
  have G_last_asked := ok_last_asked (P := P) (w := w) (base := base) T
  have G_placed_numbers := ok_placed_numbers (P := P) (w := w) (base := base) T
  refine T.F_placed_to.ok sc_placed_to (fun vs H Q E h => ?_) (fun cdv A outer s H vs Q E hr h => ?_)
  · obtain ⟨S, pt, ds, d, _, _, ar, _⟩ := h
    rw [ar.len.1]; rfl
  · exact ⟨_, (pss_one (ps_ret (pe_call G_placed_numbers (hr.mono (by decide)) (by rfl) T.m_placed_numbers T.F_placed_numbers.kp T.b_placed_numbers .nil pass0 (pa_cons (pv 1) (pa_cons (pe_op op_addA (pe_op op_mulA (pv 2) (pe_call G_last_asked (hr.mono (by decide)) (by rfl) T.m_last_asked T.F_last_asked.kp T.b_last_asked .nil pass0 (pa_cons (pv 0) (pa_cons (pv 1) pa_nil)))) pe_int) pa_nil))))), SF.spF (b := B_placed_to) (n := 0) (N := ["level", "product", "prime"]) (sf_retN (nf_call (ga_strict (ef_var 1) (ga_strict (ef_op of_addA (EF.bf (ef_op of_mulA (bf_var 2) (EF.bf (ef_call (ga_strict (ef_var 0) (ga_strict (ef_var 1) ga_nil)))))) (EF.bf ef_int)) ga_nil)))) rfl h (fun _ => nn_ret)⟩
def B_decided_multiple : Sx :=
  (sSeq (sDrop (xCb F_check_asked (aCons (xVar 0) (aCons (xVar 1) (aCons (xVar 2) aNil)))))
  (sSeq (sDrop (xCb F_check_carried (aCons (xVar 0) (aCons (xVar 1) aNil))))
  (sSeq (sDrop (xCb F_check_places (aCons (xVar 0) (aCons (xVar 1) (aCons (xVar 2) aNil)))))
  (sSeq (sAsg (xCb F_decided (aCons (xVar 0) (aCons (xVar 1) (aCons (xVar 2) (aCons (xCb F_placed_to (aCons (xVar 0) (aCons (xVar 1) (aCons (xVar 2) aNil)))) aNil))))) (gN 3))
  (sSeq (sDrop (xCb F_check_digits (aCons (xSl cutA (xBo 3) (xPo (xUn negF (xC (.int 1)))) xPn) aNil)))
  (sRet (xVar 3)))))))
def F_decided_multiple : List D → Option D := runF 1 [false, false, false] B_decided_multiple

theorem ok_decided_multiple (T : Tx K mg) : FnOk P w K mg base CX0 8 T.f_decided_multiple T.fd_decided_multiple ["level", "product", "prime"] (SpF K false [false, false, false] F_decided_multiple) := by
  have G_check_asked := ok_check_asked (P := P) (w := w) (base := base) T
  have G_check_carried := ok_check_carried (P := P) (w := w) (base := base) T
  have G_check_digits := ok_check_digits (P := P) (w := w) (base := base) T
  have G_check_places := ok_check_places (P := P) (w := w) (base := base) T
  have G_decided := ok_decided (P := P) (w := w) (base := base) T
  have G_placed_to := ok_placed_to (P := P) (w := w) (base := base) T
  refine T.F_decided_multiple.ok sc_decided_multiple (fun vs H Q E h => ?_) (fun cdv A outer s H vs Q E hr h => ?_)
  · obtain ⟨S, pt, ds, d, _, _, ar, _⟩ := h
    rw [ar.len.1]; rfl
  · exact ⟨_, (pss_cons (ps_expr (pe_call G_check_asked (hr.mono (by decide)) (by rfl) T.m_check_asked T.F_check_asked.kp T.b_check_asked .nil pass0 (pa_cons (pv 0) (pa_cons (pv 1) (pa_cons (pv 2) pa_nil)))))
  (pss_cons (ps_expr (pe_call G_check_carried (hr.mono (by decide)) (by rfl) T.m_check_carried T.F_check_carried.kp T.b_check_carried .nil pass0 (pa_cons (pv 0) (pa_cons (pv 1) pa_nil))))
  (pss_cons (ps_expr (pe_call G_check_places (hr.mono (by decide)) (by rfl) T.m_check_places T.F_check_places.kp T.b_check_places .nil pass0 (pa_cons (pv 0) (pa_cons (pv 1) (pa_cons (pv 2) pa_nil)))))
  (pss_cons (ps_set (i := 3) sc_decided_multiple.nd rfl (.inl rfl) (pe_call G_decided (hr.mono (by decide)) (by rfl) T.m_decided T.F_decided.kp T.b_decided .nil pass0 (pa_cons (pv 0) (pa_cons (pv 1) (pa_cons (pv 2) (pa_cons (pe_call G_placed_to (hr.mono (by decide)) (by rfl) T.m_placed_to T.F_placed_to.kp T.b_placed_to .nil pass0 (pa_cons (pv 0) (pa_cons (pv 1) (pa_cons (pv 2) pa_nil)))) pa_nil))))))
  (pss_cons (ps_expr (pe_call G_check_digits (hr.mono (by decide)) (by rfl) T.m_check_digits T.F_check_digits.kp T.b_check_digits .nil pass0 (pa_cons (pe_slice sl_any (pv 3) (po_some (pe_un un_neg pe_int)) po_none) pa_nil)))
  (pss_one (ps_ret (pv 3)))))))), SF.spF (b := B_decided_multiple) (n := 1) (N := ["level", "product", "prime", "answer"]) (sf_seq (sf_drop (EF.bf (ef_call (ga_strict (ef_var 0) (ga_strict (ef_var 1) (ga_strict (ef_var 2) ga_nil))))))
  (sf_seq (sf_drop (EF.bf (ef_call (ga_strict (ef_var 0) (ga_strict (ef_var 1) ga_nil)))))
  (sf_seq (sf_drop (EF.bf (ef_call (ga_strict (ef_var 0) (ga_strict (ef_var 1) (ga_strict (ef_var 2) ga_nil))))))
  (sf_seq (sf_asg (ef_call (ga_strict (ef_var 0) (ga_strict (ef_var 1) (ga_strict (ef_var 2) (ga_strict (NF.ef (nf_call (ga_strict (ef_var 0) (ga_strict (ef_var 1) (ga_strict (ef_var 2) ga_nil))))) ga_nil))))) gf_name)
  (sf_seq (sf_drop (EF.bf (ef_call (ga_loose (EF.bf (ef_sl sf_any (bf_var 3) (pf_some (EF.bf (ef_neg (EF.bf ef_int)))) pf_none)) ga_nil))))
  (sf_ret (ef_var 3))))))) rfl h (fun z => nomatch z)⟩
def B_is_multiple : Sx :=
  (sSeq (sDrop (xCb F_check_asked (aCons (xVar 0) (aCons (xVar 1) (aCons (xVar 2) aNil)))))
  (sSeq (sDrop (xCb F_check_integer (aCons (xVar 3) aNil)))
  (sSeq (sDrop (xCb F_check_carried (aCons (xVar 0) (aCons (xVar 1) aNil))))
  (sSeq (sDrop (xCb F_check_places (aCons (xVar 0) (aCons (xVar 1) (aCons (xVar 2) aNil)))))
  (sRet (xOp (eqF false) (xCb F_decided (aCons (xVar 0) (aCons (xVar 1) (aCons (xVar 2) (aCons (xCb F_placed_to (aCons (xVar 0) (aCons (xVar 1) (aCons (xVar 2) aNil)))) aNil))))) (xTup (aCons (xC (.str "multiple")) (aCons (xVar 3) aNil)))))))))
def F_is_multiple : List D → Option D := runF 0 [false, false, false, false] B_is_multiple

theorem ok_is_multiple (T : Tx K mg) : FnOk P w K mg base CX0 8 T.f_is_multiple T.fd_is_multiple ["level", "product", "prime", "number"] (SpF K false [false, false, false, false] F_is_multiple) := by
  have G_check_asked := ok_check_asked (P := P) (w := w) (base := base) T
  have G_check_carried := ok_check_carried (P := P) (w := w) (base := base) T
  have G_check_integer := ok_check_integer (P := P) (w := w) (base := base) T
  have G_check_places := ok_check_places (P := P) (w := w) (base := base) T
  have G_decided := ok_decided (P := P) (w := w) (base := base) T
  have G_placed_to := ok_placed_to (P := P) (w := w) (base := base) T
  refine T.F_is_multiple.ok sc_is_multiple (fun vs H Q E h => ?_) (fun cdv A outer s H vs Q E hr h => ?_)
  · obtain ⟨S, pt, ds, d, _, _, ar, _⟩ := h
    rw [ar.len.1]; rfl
  · exact ⟨_, (pss_cons (ps_expr (pe_call G_check_asked (hr.mono (by decide)) (by rfl) T.m_check_asked T.F_check_asked.kp T.b_check_asked .nil pass0 (pa_cons (pv 0) (pa_cons (pv 1) (pa_cons (pv 2) pa_nil)))))
  (pss_cons (ps_expr (pe_call G_check_integer (hr.mono (by decide)) (by rfl) T.m_check_integer T.F_check_integer.kp T.b_check_integer .nil pass0 (pa_cons (pv 3) pa_nil)))
  (pss_cons (ps_expr (pe_call G_check_carried (hr.mono (by decide)) (by rfl) T.m_check_carried T.F_check_carried.kp T.b_check_carried .nil pass0 (pa_cons (pv 0) (pa_cons (pv 1) pa_nil))))
  (pss_cons (ps_expr (pe_call G_check_places (hr.mono (by decide)) (by rfl) T.m_check_places T.F_check_places.kp T.b_check_places .nil pass0 (pa_cons (pv 0) (pa_cons (pv 1) (pa_cons (pv 2) pa_nil)))))
  (pss_one (ps_ret (pe_cmpR (op_eqA hr.units) (pe_call G_decided (hr.mono (by decide)) (by rfl) T.m_decided T.F_decided.kp T.b_decided .nil pass0 (pa_cons (pv 0) (pa_cons (pv 1) (pa_cons (pv 2) (pa_cons (pe_call G_placed_to (hr.mono (by decide)) (by rfl) T.m_placed_to T.F_placed_to.kp T.b_placed_to .nil pass0 (pa_cons (pv 0) (pa_cons (pv 1) (pa_cons (pv 2) pa_nil)))) pa_nil))))) (pe_tup (pa_cons pe_str (pa_cons (pv 3) pa_nil))) (nomark _)))))))), SF.spF (b := B_is_multiple) (n := 0) (N := ["level", "product", "prime", "number"]) (sf_seq (sf_drop (EF.bf (ef_call (ga_strict (ef_var 0) (ga_strict (ef_var 1) (ga_strict (ef_var 2) ga_nil))))))
  (sf_seq (sf_drop (EF.bf (ef_call (ga_strict (ef_var 3) ga_nil))))
  (sf_seq (sf_drop (EF.bf (ef_call (ga_strict (ef_var 0) (ga_strict (ef_var 1) ga_nil)))))
  (sf_seq (sf_drop (EF.bf (ef_call (ga_strict (ef_var 0) (ga_strict (ef_var 1) (ga_strict (ef_var 2) ga_nil))))))
  (sf_ret (ef_op of_eq (EF.bf (ef_call (ga_strict (ef_var 0) (ga_strict (ef_var 1) (ga_strict (ef_var 2) (ga_strict (NF.ef (nf_call (ga_strict (ef_var 0) (ga_strict (ef_var 1) (ga_strict (ef_var 2) ga_nil))))) ga_nil)))))) (EF.bf (ef_tup (af_cons ef_str (af_cons (ef_var 3) af_nil)))))))))) rfl h (fun z => nomatch z)⟩
def B_law_pot : Sx :=
  (sSeq (sAsg (xOp addF (xOp mulF (xC (.int 1579)) (xBo 1)) (xC (.int 1423))) (gN 2))
  (sSeq (sIf (xT (xOp (cmpF fun i j => decide (i < j)) (xBo 1) (xScrLen 0))) (sAsg (xCb absF (aCons (xScrIx 0 (xBo 1)) aNil)) (gN 2)) sNext)
  (sRet (xLst (aCons (xCb max2F (aCons (xC (.int 0)) (aCons (xOp subF (xBo 2) (xOp powF (xC (.int 10)) (xC (.int 18)))) aNil))) (aCons (xOp addF (xOp modF (xCb toIntF (aCons (xOp addF (xOp addF (xOp mulF (xOp modF (xCb toIntF (aCons (xBo 2) aNil)) (xC (.int 2147483549))) (xC (.int 40692))) (xOp mulF (xC (.int 6823)) (xBo 1))) (xC (.int 1423))) aNil)) (xC (.int 2147483563))) (xC (.int 1))) aNil))))))
def F_law_pot : List Int → D → Option D := runS 1 B_law_pot

theorem ok_law_pot (T : Tx K mg) : FnOk P w K mg base CX0 1 T.f_law_pot T.fd_law_pot ["script", "k"] (SpS K F_law_pot) := by
  refine T.F_law_pot.ok sc_law_pot (fun vs H Q E h => ?_) (fun cdv A outer s H vs Q E hr h => ?_)
  · obtain ⟨a, ns, k, r, rfl, _⟩ := h
    rfl
  · exact ⟨_, (pss_cons (ps_set (i := 2) sc_law_pot.nd rfl (.inl rfl) (pe_op op_addA (pe_op op_mulA pe_int (pv 1)) pe_int))
  (pss_cons (ps_if (pt_cmpR op_lt (pv 1) (pe_callB call_len (by rfl) T.z_len (by decide +kernel) (pa_cons (pv 0) pa_nil)) (nomark _)) (pss_one (ps_set (i := 2) sc_law_pot.nd rfl (.inl rfl) (pe_callB call_abs (by rfl) T.z_abs (by decide +kernel) (pa_cons (pe_ix ix_seq (pv 0) (pv 1) (fun _ _ => rfl)) pa_nil)))) pss_nil)
  (pss_one (ps_ret (pe_lst (pa_cons (pe_callB (call_max2 rfl) (by rfl) T.z_max (by decide +kernel) (pa_cons pe_int (pa_cons (pe_op op_sub (pv 2) (pe_op op_powX pe_int pe_int)) pa_nil))) (pa_cons (pe_op op_addA (pe_op op_modN (pe_callTy call_int1 (by rfl) T.z_int (by decide +kernel) (pa_cons (pe_op op_addA (pe_op op_addA (pe_op op_mulA (pe_op op_modN (pe_callTy call_int1 (by rfl) T.z_int (by decide +kernel) (pa_cons (pv 2) pa_nil)) pe_int) pe_int) (pe_op op_mulA pe_int (pv 1))) pe_int) pa_nil)) pe_int) pe_int) pa_nil))))))), SF.spS (b := B_law_pot) (n := 1) (N := ["script", "k", "cell"]) (sf_seq (sf_asg (ef_op of_addA (EF.bf (ef_op of_mulA (EF.bf ef_int) (bf_var 1))) (EF.bf ef_int)) gf_name)
  (sf_seq (sf_if (tf_test (EF.bf (ef_op of_cmp (bf_var 1) (EF.bf ef_scrLen)))) (sf_asg (ef_cb cf_abs (ab_cons (EF.bf (ef_scrIx (bf_var 1))) ab_nil)) gf_name) sf_next)
  (sf_retN (nf_lst (af_cons (ef_cb cf_max2 (ab_cons (EF.bf ef_int) (ab_cons (EF.bf (ef_op of_sub (bf_var 2) (EF.bf (ef_op of_pow (EF.bf ef_int) (EF.bf ef_int))))) ab_nil))) (af_cons (ef_op of_addA (EF.bf (ef_op of_mod (EF.bf (ef_cb cf_int (ab_cons (EF.bf (ef_op of_addA (EF.bf (ef_op of_addA (EF.bf (ef_op of_mulA (EF.bf (ef_op of_mod (EF.bf (ef_cb cf_int (ab_cons (bf_var 2) ab_nil))) (EF.bf ef_int))) (EF.bf ef_int))) (EF.bf (ef_op of_mulA (EF.bf ef_int) (bf_var 1))))) (EF.bf ef_int))) ab_nil))) (EF.bf ef_int))) (EF.bf ef_int)) af_nil)))))) rfl h (nn_seq (nn_seq nn_ret))⟩
def B_law_pick : Sx :=
  (sRet (xOp ixF (xBo 1) (xCallP 0 F_law_draw (aCons (xCb lenF (aCons (xBo 1) aNil)) aNil))))
def F_law_pick : Pot → List D → Option (D × Pot) := runP 0 [false] B_law_pick

theorem ok_law_pick (T : Tx K mg) : FnOk P w K mg base CX0 2 T.f_law_pick T.fd_law_pick ["pot", "some"] (SpP K false [false] F_law_pick) := by
  have G_law_draw := ok_law_draw (P := P) (w := w) (base := base) T
  refine T.F_law_pick.ok sc_law_pick (fun vs H Q E h => ?_) (fun cdv A outer s H vs Q E hr h => ?_)
  · obtain ⟨S, a, ws, π, ds, d, π', rfl, _, _, _, ar, _⟩ := h
    show ws.length + 1 = _
    rw [ar.len.1]; rfl
  · exact ⟨_, (pss_one (ps_ret (pe_ix ix_seq (pv 1) (pe_call G_law_draw (hr.mono (by decide)) (by rfl) T.m_law_draw T.F_law_draw.kp T.b_law_draw .nil pass0 (pa_cons (pv 0) (pa_cons (pe_callB call_len (by rfl) T.z_len (by decide +kernel) (pa_cons (pv 1) pa_nil)) pa_nil))) (fun _ _ => rfl)))), SF.spP (b := B_law_pick) (n := 0) (N := ["pot", "some"]) (sf_ret (ef_op of_ix (bf_var 1) (EF.bf (ef_callP (ga_strict (ef_cb cf_len (ab_cons (bf_var 1) ab_nil)) ga_nil))))) rfl h (fun z => nomatch z)⟩
def B_law_primes : Sx :=
  (sRet (xLc (iR (aCons (xC (.int 2)) (aCons (xOp addF (xBo 0) (xC (.int 1))) aNil))) (gN 1) (xAnd (xT (xOp (eqF false) (xOp modF (xBo 0) (xBo 1)) (xC (.int 0)))) (xT (xCb allF (aCons (xLc (iR (aCons (xC (.int 2)) (aCons (xBo 1) aNil))) (gN 2) xYes (xOp (eqF true) (xOp modF (xBo 1) (xBo 2)) (xC (.int 0))) [2]) aNil)))) (xVar 1) [1]))
def F_law_primes : List D → Option D := runF 2 [false] B_law_primes

theorem ok_law_primes (T : Tx K mg) : FnOk P w K mg base CX0 1 T.f_law_primes T.fd_law_primes ["number"] (SpF K true [false] F_law_primes) := by

  refine T.F_law_primes.ok sc_law_primes (fun vs H Q E h => ?_) (fun cdv A outer s H vs Q E hr h => ?_)
  · obtain ⟨S, pt, ds, d, _, _, ar, _⟩ := h
    rw [ar.len.1]; rfl
  · exact ⟨_, (pss_one (ps_ret (pe_lc (own := [("one", 1)]) (g := gName 1) (by rfl) sc_law_primes.nd (pi_range2 (by rfl) T.z_range (pa_cons pe_int (pa_cons (pe_op op_addA (pv 0) pe_int) pa_nil))) (blkOk_by (own := [("one", 1)]) (N := ["number", "one", "other"]) (sc := defScope s_law_primes) (by decide +kernel)) (fun _ _ _ _ _ => pg_name (i := 1) sc_law_primes.nd rfl (.inr rfl)) (fun _ _ _ _ _ => (pts_one (PW.pt (pw_and (pt_cmpR (op_eqA hr.units) (pe_op op_modN (pv 0) (pv 1)) pe_int (nomark _)) (pw_and1 (pt_val (pe_callB (cr_all rfl) (by rfl) T.z_all (by decide +kernel) (pa_cons (pe_lc (own := [("other", 2)]) (g := gName 2) (tt := tYes) (by rfl) sc_law_primes.nd (pi_range2 (by rfl) T.z_range (pa_cons pe_int (pa_cons (pv 1) pa_nil))) (by exact blkOk_by (by rfl)) (fun _ _ _ _ _ => pg_name (i := 2) sc_law_primes.nd rfl (.inl rfl)) (fun _ _ _ _ _ => pts_nil) (fun _ _ _ _ _ => (pe_cmpR (op_neA hr.units) (pe_op op_modN (pv 1) (pv 2)) pe_int (nomark _)))) pa_nil)))))))) (fun _ _ _ _ _ => (pv 1))))), SF.spF (b := B_law_primes) (n := 2) (N := ["number", "one", "other"]) (sf_retN (nf_lc (if_rng2 (EF.bf ef_int) (EF.bf (ef_op of_addA (bf_var 0) (EF.bf ef_int)))) gf_name (tf_and (tf_test (EF.bf (ef_op of_eq (EF.bf (ef_op of_mod (bf_var 0) (bf_var 1))) (EF.bf ef_int)))) (tf_test (EF.bf (ef_cb cf_all (ab_cons (EF.bf (NF.ef (nf_lc (if_rng2 (EF.bf ef_int) (bf_var 1)) gf_name tf_yes (ef_op of_ne (EF.bf (ef_op of_mod (bf_var 1) (bf_var 2))) (EF.bf ef_int))))) ab_nil))))) (ef_var 1))) rfl h (fun _ => nn_ret)⟩
def B_law_some : Sx :=
  (sSeq (sAsg (xLst (aCons (xTup (aCons (xC (.int 1)) (aCons (xTup (aCons (xTup (aCons (xC (.int 1)) (aCons (xC (.int 24)) aNil))) aNil)) aNil))) (aCons (xTup (aCons (xC (.int 2)) (aCons (xTup (aCons (xTup (aCons (xC (.int 1)) (aCons (xC (.int 8)) aNil))) (aCons (xTup (aCons (xC (.int 2)) (aCons (xC (.int 8)) aNil))) aNil))) aNil))) (aCons (xTup (aCons (xC (.int 2)) (aCons (xTup (aCons (xTup (aCons (xC (.int 1)) (aCons (xC (.int 16)) aNil))) (aCons (xTup (aCons (xC (.int 2)) (aCons (xUn negF (xC (.int 8))) aNil))) aNil))) aNil))) (aCons (xTup (aCons (xC (.int 3)) (aCons (xTup (aCons (xTup (aCons (xC (.int 1)) (aCons (xC (.int 6)) aNil))) (aCons (xTup (aCons (xC (.int 3)) (aCons (xC (.int 6)) aNil))) aNil))) aNil))) (aCons (xTup (aCons (xC (.int 3)) (aCons (xTup (aCons (xTup (aCons (xC (.int 1)) (aCons (xC (.int 9)) aNil))) (aCons (xTup (aCons (xC (.int 3)) (aCons (xUn negF (xC (.int 3))) aNil))) aNil))) aNil))) aNil)))))) (gN 0))
  (sSeq (sAsg (xOp addF (xBo 0) (xLst (aCons (xTup (aCons (xC (.int 4)) (aCons (xTup (aCons (xTup (aCons (xC (.int 2)) (aCons (xC (.int 12)) aNil))) aNil)) aNil))) (aCons (xTup (aCons (xC (.int 4)) (aCons (xTup (aCons (xTup (aCons (xC (.int 1)) (aCons (xUn negF (xC (.int 4))) aNil))) (aCons (xTup (aCons (xC (.int 2)) (aCons (xC (.int 10)) aNil))) (aCons (xTup (aCons (xC (.int 4)) (aCons (xUn negF (xC (.int 4))) aNil))) aNil)))) aNil))) (aCons (xTup (aCons (xC (.int 5)) (aCons (xTup (aCons (xTup (aCons (xC (.int 1)) (aCons (xC (.int 4)) aNil))) (aCons (xTup (aCons (xC (.int 5)) (aCons (xC (.int 4)) aNil))) aNil))) aNil))) (aCons (xTup (aCons (xC (.int 6)) (aCons (xTup (aCons (xTup (aCons (xC (.int 1)) (aCons (xC (.int 2)) aNil))) (aCons (xTup (aCons (xC (.int 2)) (aCons (xC (.int 2)) aNil))) (aCons (xTup (aCons (xC (.int 3)) (aCons (xC (.int 2)) aNil))) (aCons (xTup (aCons (xC (.int 6)) (aCons (xC (.int 2)) aNil))) aNil))))) aNil))) aNil)))))) (gN 0))
  (sSeq (sAsg (xOp addF (xBo 0) (xLst (aCons (xTup (aCons (xC (.int 7)) (aCons (xTup (aCons (xTup (aCons (xC (.int 1)) (aCons (xC (.int 3)) aNil))) (aCons (xTup (aCons (xC (.int 7)) (aCons (xC (.int 3)) aNil))) aNil))) aNil))) (aCons (xTup (aCons (xC (.int 8)) (aCons (xTup (aCons (xTup (aCons (xC (.int 1)) (aCons (xC (.int 2)) aNil))) (aCons (xTup (aCons (xC (.int 2)) (aCons (xC (.int 1)) aNil))) (aCons (xTup (aCons (xC (.int 4)) (aCons (xC (.int 1)) aNil))) (aCons (xTup (aCons (xC (.int 8)) (aCons (xC (.int 2)) aNil))) aNil))))) aNil))) (aCons (xTup (aCons (xC (.int 11)) (aCons (xTup (aCons (xTup (aCons (xC (.int 1)) (aCons (xC (.int 2)) aNil))) (aCons (xTup (aCons (xC (.int 11)) (aCons (xC (.int 2)) aNil))) aNil))) aNil))) (aCons (xTup (aCons (xC (.int 14)) (aCons (xTup (aCons (xTup (aCons (xC (.int 1)) (aCons (xC (.int 1)) aNil))) (aCons (xTup (aCons (xC (.int 2)) (aCons (xC (.int 1)) aNil))) (aCons (xTup (aCons (xC (.int 7)) (aCons (xC (.int 1)) aNil))) (aCons (xTup (aCons (xC (.int 14)) (aCons (xC (.int 1)) aNil))) aNil))))) aNil))) aNil)))))) (gN 0))
  (sRet (xOp catF (xBo 0) (xLst (aCons (xTup (aCons (xC (.int 15)) (aCons (xTup (aCons (xTup (aCons (xC (.int 1)) (aCons (xC (.int 1)) aNil))) (aCons (xTup (aCons (xC (.int 3)) (aCons (xC (.int 1)) aNil))) (aCons (xTup (aCons (xC (.int 5)) (aCons (xC (.int 1)) aNil))) (aCons (xTup (aCons (xC (.int 15)) (aCons (xC (.int 1)) aNil))) aNil))))) aNil))) (aCons (xTup (aCons (xC (.int 16)) (aCons (xTup (aCons (xTup (aCons (xC (.int 4)) (aCons (xC (.int 6)) aNil))) aNil)) aNil))) (aCons (xTup (aCons (xC (.int 20)) (aCons (xTup (aCons (xTup (aCons (xC (.int 2)) (aCons (xC (.int 2)) aNil))) (aCons (xTup (aCons (xC (.int 10)) (aCons (xC (.int 2)) aNil))) aNil))) aNil))) (aCons (xTup (aCons (xC (.int 23)) (aCons (xTup (aCons (xTup (aCons (xC (.int 1)) (aCons (xC (.int 1)) aNil))) (aCons (xTup (aCons (xC (.int 23)) (aCons (xC (.int 1)) aNil))) aNil))) aNil))) aNil))))))))))
def F_law_some : List D → Option D := runF 1 [] B_law_some

theorem ok_law_some (T : Tx K mg) : FnOk P w K mg base CX0 1 T.f_law_some T.fd_law_some [] (SpF K true [] F_law_some) := by

  refine T.F_law_some.ok sc_law_some (fun vs H Q E h => ?_) (fun cdv A outer s H vs Q E hr h => ?_)
  · obtain ⟨S, pt, ds, d, _, _, ar, _⟩ := h
    rw [ar.len.1]; rfl
  · exact ⟨_, (pss_cons (ps_set (i := 0) sc_law_some.nd rfl (.inl rfl) (pe_lst (pa_cons (pe_tup (pa_cons pe_int (pa_cons (pe_tup (pa_cons (pe_tup (pa_cons pe_int (pa_cons pe_int pa_nil))) pa_nil)) pa_nil))) (pa_cons (pe_tup (pa_cons pe_int (pa_cons (pe_tup (pa_cons (pe_tup (pa_cons pe_int (pa_cons pe_int pa_nil))) (pa_cons (pe_tup (pa_cons pe_int (pa_cons pe_int pa_nil))) pa_nil))) pa_nil))) (pa_cons (pe_tup (pa_cons pe_int (pa_cons (pe_tup (pa_cons (pe_tup (pa_cons pe_int (pa_cons pe_int pa_nil))) (pa_cons (pe_tup (pa_cons pe_int (pa_cons (pe_un un_neg pe_int) pa_nil))) pa_nil))) pa_nil))) (pa_cons (pe_tup (pa_cons pe_int (pa_cons (pe_tup (pa_cons (pe_tup (pa_cons pe_int (pa_cons pe_int pa_nil))) (pa_cons (pe_tup (pa_cons pe_int (pa_cons pe_int pa_nil))) pa_nil))) pa_nil))) (pa_cons (pe_tup (pa_cons pe_int (pa_cons (pe_tup (pa_cons (pe_tup (pa_cons pe_int (pa_cons pe_int pa_nil))) (pa_cons (pe_tup (pa_cons pe_int (pa_cons (pe_un un_neg pe_int) pa_nil))) pa_nil))) pa_nil))) pa_nil)))))))
  (pss_cons (ps_set (i := 0) sc_law_some.nd rfl (.inl rfl) (pe_op op_addA (pv 0) (pe_lst (pa_cons (pe_tup (pa_cons pe_int (pa_cons (pe_tup (pa_cons (pe_tup (pa_cons pe_int (pa_cons pe_int pa_nil))) pa_nil)) pa_nil))) (pa_cons (pe_tup (pa_cons pe_int (pa_cons (pe_tup (pa_cons (pe_tup (pa_cons pe_int (pa_cons (pe_un un_neg pe_int) pa_nil))) (pa_cons (pe_tup (pa_cons pe_int (pa_cons pe_int pa_nil))) (pa_cons (pe_tup (pa_cons pe_int (pa_cons (pe_un un_neg pe_int) pa_nil))) pa_nil)))) pa_nil))) (pa_cons (pe_tup (pa_cons pe_int (pa_cons (pe_tup (pa_cons (pe_tup (pa_cons pe_int (pa_cons pe_int pa_nil))) (pa_cons (pe_tup (pa_cons pe_int (pa_cons pe_int pa_nil))) pa_nil))) pa_nil))) (pa_cons (pe_tup (pa_cons pe_int (pa_cons (pe_tup (pa_cons (pe_tup (pa_cons pe_int (pa_cons pe_int pa_nil))) (pa_cons (pe_tup (pa_cons pe_int (pa_cons pe_int pa_nil))) (pa_cons (pe_tup (pa_cons pe_int (pa_cons pe_int pa_nil))) (pa_cons (pe_tup (pa_cons pe_int (pa_cons pe_int pa_nil))) pa_nil))))) pa_nil))) pa_nil)))))))
  (pss_cons (ps_set (i := 0) sc_law_some.nd rfl (.inl rfl) (pe_op op_addA (pv 0) (pe_lst (pa_cons (pe_tup (pa_cons pe_int (pa_cons (pe_tup (pa_cons (pe_tup (pa_cons pe_int (pa_cons pe_int pa_nil))) (pa_cons (pe_tup (pa_cons pe_int (pa_cons pe_int pa_nil))) pa_nil))) pa_nil))) (pa_cons (pe_tup (pa_cons pe_int (pa_cons (pe_tup (pa_cons (pe_tup (pa_cons pe_int (pa_cons pe_int pa_nil))) (pa_cons (pe_tup (pa_cons pe_int (pa_cons pe_int pa_nil))) (pa_cons (pe_tup (pa_cons pe_int (pa_cons pe_int pa_nil))) (pa_cons (pe_tup (pa_cons pe_int (pa_cons pe_int pa_nil))) pa_nil))))) pa_nil))) (pa_cons (pe_tup (pa_cons pe_int (pa_cons (pe_tup (pa_cons (pe_tup (pa_cons pe_int (pa_cons pe_int pa_nil))) (pa_cons (pe_tup (pa_cons pe_int (pa_cons pe_int pa_nil))) pa_nil))) pa_nil))) (pa_cons (pe_tup (pa_cons pe_int (pa_cons (pe_tup (pa_cons (pe_tup (pa_cons pe_int (pa_cons pe_int pa_nil))) (pa_cons (pe_tup (pa_cons pe_int (pa_cons pe_int pa_nil))) (pa_cons (pe_tup (pa_cons pe_int (pa_cons pe_int pa_nil))) (pa_cons (pe_tup (pa_cons pe_int (pa_cons pe_int pa_nil))) pa_nil))))) pa_nil))) pa_nil)))))))
  (pss_one (ps_ret (pe_op op_addA (pv 0) (pe_lst (pa_cons (pe_tup (pa_cons pe_int (pa_cons (pe_tup (pa_cons (pe_tup (pa_cons pe_int (pa_cons pe_int pa_nil))) (pa_cons (pe_tup (pa_cons pe_int (pa_cons pe_int pa_nil))) (pa_cons (pe_tup (pa_cons pe_int (pa_cons pe_int pa_nil))) (pa_cons (pe_tup (pa_cons pe_int (pa_cons pe_int pa_nil))) pa_nil))))) pa_nil))) (pa_cons (pe_tup (pa_cons pe_int (pa_cons (pe_tup (pa_cons (pe_tup (pa_cons pe_int (pa_cons pe_int pa_nil))) pa_nil)) pa_nil))) (pa_cons (pe_tup (pa_cons pe_int (pa_cons (pe_tup (pa_cons (pe_tup (pa_cons pe_int (pa_cons pe_int pa_nil))) (pa_cons (pe_tup (pa_cons pe_int (pa_cons pe_int pa_nil))) pa_nil))) pa_nil))) (pa_cons (pe_tup (pa_cons pe_int (pa_cons (pe_tup (pa_cons (pe_tup (pa_cons pe_int (pa_cons pe_int pa_nil))) (pa_cons (pe_tup (pa_cons pe_int (pa_cons pe_int pa_nil))) pa_nil))) pa_nil))) pa_nil))))))))))), SF.spF (b := B_law_some) (n := 1) (N := ["some"]) (sf_seq (sf_asg (NF.ef (nf_lst (af_cons (ef_tup (af_cons ef_int (af_cons (ef_tup (af_cons (ef_tup (af_cons ef_int (af_cons ef_int af_nil))) af_nil)) af_nil))) (af_cons (ef_tup (af_cons ef_int (af_cons (ef_tup (af_cons (ef_tup (af_cons ef_int (af_cons ef_int af_nil))) (af_cons (ef_tup (af_cons ef_int (af_cons ef_int af_nil))) af_nil))) af_nil))) (af_cons (ef_tup (af_cons ef_int (af_cons (ef_tup (af_cons (ef_tup (af_cons ef_int (af_cons ef_int af_nil))) (af_cons (ef_tup (af_cons ef_int (af_cons (ef_neg (EF.bf ef_int)) af_nil))) af_nil))) af_nil))) (af_cons (ef_tup (af_cons ef_int (af_cons (ef_tup (af_cons (ef_tup (af_cons ef_int (af_cons ef_int af_nil))) (af_cons (ef_tup (af_cons ef_int (af_cons ef_int af_nil))) af_nil))) af_nil))) (af_cons (ef_tup (af_cons ef_int (af_cons (ef_tup (af_cons (ef_tup (af_cons ef_int (af_cons ef_int af_nil))) (af_cons (ef_tup (af_cons ef_int (af_cons (ef_neg (EF.bf ef_int)) af_nil))) af_nil))) af_nil))) af_nil))))))) gf_name)
  (sf_seq (sf_asg (ef_op of_addA (bf_var 0) (EF.bf (NF.ef (nf_lst (af_cons (ef_tup (af_cons ef_int (af_cons (ef_tup (af_cons (ef_tup (af_cons ef_int (af_cons ef_int af_nil))) af_nil)) af_nil))) (af_cons (ef_tup (af_cons ef_int (af_cons (ef_tup (af_cons (ef_tup (af_cons ef_int (af_cons (ef_neg (EF.bf ef_int)) af_nil))) (af_cons (ef_tup (af_cons ef_int (af_cons ef_int af_nil))) (af_cons (ef_tup (af_cons ef_int (af_cons (ef_neg (EF.bf ef_int)) af_nil))) af_nil)))) af_nil))) (af_cons (ef_tup (af_cons ef_int (af_cons (ef_tup (af_cons (ef_tup (af_cons ef_int (af_cons ef_int af_nil))) (af_cons (ef_tup (af_cons ef_int (af_cons ef_int af_nil))) af_nil))) af_nil))) (af_cons (ef_tup (af_cons ef_int (af_cons (ef_tup (af_cons (ef_tup (af_cons ef_int (af_cons ef_int af_nil))) (af_cons (ef_tup (af_cons ef_int (af_cons ef_int af_nil))) (af_cons (ef_tup (af_cons ef_int (af_cons ef_int af_nil))) (af_cons (ef_tup (af_cons ef_int (af_cons ef_int af_nil))) af_nil))))) af_nil))) af_nil)))))))) gf_name)
  (sf_seq (sf_asg (ef_op of_addA (bf_var 0) (EF.bf (NF.ef (nf_lst (af_cons (ef_tup (af_cons ef_int (af_cons (ef_tup (af_cons (ef_tup (af_cons ef_int (af_cons ef_int af_nil))) (af_cons (ef_tup (af_cons ef_int (af_cons ef_int af_nil))) af_nil))) af_nil))) (af_cons (ef_tup (af_cons ef_int (af_cons (ef_tup (af_cons (ef_tup (af_cons ef_int (af_cons ef_int af_nil))) (af_cons (ef_tup (af_cons ef_int (af_cons ef_int af_nil))) (af_cons (ef_tup (af_cons ef_int (af_cons ef_int af_nil))) (af_cons (ef_tup (af_cons ef_int (af_cons ef_int af_nil))) af_nil))))) af_nil))) (af_cons (ef_tup (af_cons ef_int (af_cons (ef_tup (af_cons (ef_tup (af_cons ef_int (af_cons ef_int af_nil))) (af_cons (ef_tup (af_cons ef_int (af_cons ef_int af_nil))) af_nil))) af_nil))) (af_cons (ef_tup (af_cons ef_int (af_cons (ef_tup (af_cons (ef_tup (af_cons ef_int (af_cons ef_int af_nil))) (af_cons (ef_tup (af_cons ef_int (af_cons ef_int af_nil))) (af_cons (ef_tup (af_cons ef_int (af_cons ef_int af_nil))) (af_cons (ef_tup (af_cons ef_int (af_cons ef_int af_nil))) af_nil))))) af_nil))) af_nil)))))))) gf_name)
  (sf_retN (nf_op on_addA (bf_var 0) (EF.bf (NF.ef (nf_lst (af_cons (ef_tup (af_cons ef_int (af_cons (ef_tup (af_cons (ef_tup (af_cons ef_int (af_cons ef_int af_nil))) (af_cons (ef_tup (af_cons ef_int (af_cons ef_int af_nil))) (af_cons (ef_tup (af_cons ef_int (af_cons ef_int af_nil))) (af_cons (ef_tup (af_cons ef_int (af_cons ef_int af_nil))) af_nil))))) af_nil))) (af_cons (ef_tup (af_cons ef_int (af_cons (ef_tup (af_cons (ef_tup (af_cons ef_int (af_cons ef_int af_nil))) af_nil)) af_nil))) (af_cons (ef_tup (af_cons ef_int (af_cons (ef_tup (af_cons (ef_tup (af_cons ef_int (af_cons ef_int af_nil))) (af_cons (ef_tup (af_cons ef_int (af_cons ef_int af_nil))) af_nil))) af_nil))) (af_cons (ef_tup (af_cons ef_int (af_cons (ef_tup (af_cons (ef_tup (af_cons ef_int (af_cons ef_int af_nil))) (af_cons (ef_tup (af_cons ef_int (af_cons ef_int af_nil))) af_nil))) af_nil))) af_nil)))))))))))) rfl h (fun _ => (nn_seq (nn_seq (nn_seq nn_ret))))⟩
def B_law_drawn_b1 : Sx :=
  (sDP 4 (xOp addF (xDG2 4 (xBo 5) (xC (.int 0))) (xBo 6)) (xBo 5))
def B_law_drawn : Sx :=
  (sSeq (sAsg (xCallP 0 F_law_pick (aCons (xCb F_law_some aNil) aNil)) (gT 2 (gsC (gN 1) (gsC (gN 2) gsN))))
  (sSeq (sAsg (xLc (iA (xCb F_law_some aNil)) (gT 2 (gsC (gN 7) (gsC (gN 8) gsN))) (xT (xOp (eqF false) (xBo 7) (xBo 1))) (xVar 8) [7, 8]) (gN 3))
  (sSeq (sDL 4 (xCb listF (aCons (xBo 2) aNil)))
  (sSeq (sFor (iA (xCallP 0 F_law_pick (aCons (xOp addF (xLst (aCons (xTup aNil) aNil)) (xBo 3)) aNil))) (gT 2 (gsC (gN 5) (gsC (gN 6) gsN))) B_law_drawn_b1)
  (sRet (xTup (aCons (xVar 1) (aCons (xTup (aCons (xC (.str "product")) (aCons (xCb tupleF (aCons (xLc (iA (xCb sortedF (aCons (xKeys 4) aNil))) (gN 5) (xT (xOp (eqF true) (xDG 4 (xBo 5)) (xC (.int 0)))) (xTup (aCons (xVar 5) (aCons (xDG 4 (xBo 5)) aNil))) [5]) aNil)) aNil))) aNil))))))))
def F_law_drawn : Pot → List D → Option (D × Pot) := runP 8 [] B_law_drawn

theorem ok_law_drawn (T : Tx K mg) : FnOk P w K mg base CX0 3 T.f_law_drawn T.fd_law_drawn ["pot"] (SpP K false [] F_law_drawn) := by
  have G_law_pick := ok_law_pick (P := P) (w := w) (base := base) T
  have G_law_some := ok_law_some (P := P) (w := w) (base := base) T
  refine T.F_law_drawn.ok sc_law_drawn (fun vs H Q E h => ?_) (fun cdv A outer s H vs Q E hr h => ?_)
  · obtain ⟨S, a, ws, π, ds, d, π', rfl, _, _, _, ar, _⟩ := h
    show ws.length + 1 = _
    rw [ar.len.1]; rfl
  · exact ⟨_, (pss_cons (ps_asg (pe_call G_law_pick (hr.mono (by decide)) (by rfl) T.m_law_pick T.F_law_pick.kp T.b_law_pick .nil pass0 (pa_cons (pv 0) (pa_cons (pe_call0 G_law_some (hr.mono (by decide)) (by rfl) T.m_law_some T.F_law_some.kp T.b_law_some .nil pass0) pa_nil))) (pg_tup rfl (pgs_cons (pg_name (i := 1) sc_law_drawn.nd rfl (.inr rfl)) (pgs_cons (pg_name (i := 2) sc_law_drawn.nd rfl (.inl rfl)) pgs_nil))))
  (pss_cons (ps_setLc (i := 3) (own := [("other", 7), ("far", 8)]) (g := gTup K 2 (gCons (gName 7) (gCons (gName 8) (gNil)))) rfl sc_law_drawn.nd rfl rfl (sw_true rfl rfl rfl (by decide +kernel)) (pi_any (pe_call0 G_law_some (hr.mono (by decide)) (by rfl) T.m_law_some T.F_law_some.kp T.b_law_some .nil pass0)) (blkOk_by (own := [("other", 7), ("far", 8)]) (N := ["pot", "level", "powers", "late", "some", "step", "power", "other", "far"]) (sc := defScope s_law_drawn) (by decide +kernel)) (fun _ _ _ _ _ => (pg_tup rfl (pgs_cons (pg_name (i := 7) sc_law_drawn.nd rfl (.inl rfl)) (pgs_cons (pg_name (i := 8) sc_law_drawn.nd rfl (.inl rfl)) pgs_nil)))) (fun _ _ _ _ _ => (pts_one (pt_cmpR (op_eqA hr.units) (pv 7) (pv 1) (nomark _)))) (fun _ _ _ _ _ => (pv 8)))
  (pss_cons (ps_set (i := 4) sc_law_drawn.nd rfl (.inr rfl) (pe_callTy (cr_dictP (by rfl)) (by rfl) T.z_dict (by decide +kernel) (pa_cons (pe_callTy call_list_of (by rfl) T.z_list (by decide +kernel) (pa_cons (pv 2) pa_nil)) pa_nil)))
  (pss_cons (ps_for PassesOwn.never rfl (pi_any (pe_call G_law_pick (hr.mono (by decide)) (by rfl) T.m_law_pick T.F_law_pick.kp T.b_law_pick .nil pass0 (pa_cons (pv 0) (pa_cons (pe_op op_addA (pe_lst (pa_cons (pe_tup pa_nil) pa_nil)) (pv 3)) pa_nil)))) (pg_tup rfl (pgs_cons (pg_name (i := 5) sc_law_drawn.nd rfl (.inl rfl)) (pgs_cons (pg_name (i := 6) sc_law_drawn.nd rfl (.inl rfl)) pgs_nil))) (pss_one (ps_dput (un1of (un66 hr)) (pv 4) (pv 5) (pe_op op_addA (pe_dget2 (un1of (un66 hr)) (pv 4) (pv 5) pe_int ⟨rfl, rfl, rfl, rfl⟩) (pv 6)) rfl)))
  (pss_one (ps_ret (pe_tup (pa_cons (pv 1) (pa_cons (pe_tup (pa_cons pe_str (pa_cons (pe_callTy call_tuple_of (by rfl) T.z_tuple (by decide +kernel) (pa_cons (pe_lc (own := [("step", 5)]) (g := gName 5) (by rfl) sc_law_drawn.nd (pi_any (pe_callB cr_sortedI (by rfl) T.z_sorted (by decide +kernel) (pa_cons (pe_callTy (cr_listD (by rfl)) (by rfl) T.z_list (by decide +kernel) (pa_cons (pv 4) pa_nil)) pa_nil))) (blkOk_by (own := [("step", 5)]) (N := ["pot", "level", "powers", "late", "some", "step", "power", "other", "far"]) (sc := defScope s_law_drawn) (by decide +kernel)) (fun _ _ _ _ _ => pg_name (i := 5) sc_law_drawn.nd rfl (.inl rfl)) (fun _ _ _ _ _ => (pts_one (pt_cmpR (op_neA hr.units) (pe_dget (un1of (un66 hr)) (pv 4) (pv 5) (fun _ _ => rfl)) pe_int (nomark _)))) (fun _ _ _ _ _ => (pe_tup (pa_cons (pv 5) (pa_cons (pe_dget (un1of (un66 hr)) (pv 4) (pv 5) (fun _ _ => rfl)) pa_nil))))) pa_nil)) pa_nil))) pa_nil))))))))), SF.spP (b := B_law_drawn) (n := 8) (N := ["pot", "level", "powers", "late", "some", "step", "power", "other", "far"]) (sf_seq (sf_asg (ef_callP (ga_strict (NF.ef (nf_call ga_nil)) ga_nil)) (gf_tup (gsf_cons gf_name (gsf_cons gf_name (gsf_nil (vs := []))))))
  (sf_seq (sf_asg (NF.ef (nf_lc (if_any (EF.yf (NF.ef (nf_call ga_nil)))) (gf_tup (gsf_cons gf_name (gsf_cons gf_name (gsf_nil (vs := []))))) (tf_test (EF.bf (ef_op of_eq (bf_var 7) (bf_var 1)))) (ef_var 8))) gf_name)
  (sf_seq (sf_dlist (ef_cb cn_list.of (ab_cons (bf_var 2) ab_nil)))
  (sf_seq (sf_for (if_any (EF.yf (ef_callP (ga_strict (ef_op of_addA (EF.bf (NF.ef (nf_lst (af_cons (ef_tup af_nil) af_nil)))) (bf_var 3)) ga_nil)))) (gf_tup (gsf_cons gf_name (gsf_cons gf_name (gsf_nil (vs := []))))) (sf_dput (ef_op of_addA (EF.bf (ef_dget2 (bf_var 5) ef_int)) (bf_var 6)) (bf_var 5)))
  (sf_ret (ef_tup (af_cons (ef_var 1) (af_cons (ef_tup (af_cons ef_str (af_cons (ef_cb cf_tuple (ab_cons (EF.bf (NF.ef (nf_lc (if_any (EF.yf (ef_cb cn_sorted.of (ab_cons (EF.bf (NF.ef nf_keys)) ab_nil)))) gf_name (tf_test (EF.bf (ef_op of_ne (EF.bf (ef_dget (bf_var 5))) (EF.bf ef_int)))) (ef_tup (af_cons (ef_var 5) (af_cons (ef_dget (bf_var 5)) af_nil)))))) ab_nil)) af_nil))) af_nil)))))))) rfl h (fun z => nomatch z)⟩
def B_law_weight : Sx :=
  (sRet (xOp fdivF (xCb sumF (aCons (xLc (iA (xOp ixF (xBo 0) (xC (.int 1)))) (gT 2 (gsC (gN 1) (gsC (gN 2) gsN))) xYes (xVar 2) [1, 2]) aNil)) (xC (.int 2))))
def F_law_weight : List D → Option D := runF 2 [false] B_law_weight

theorem ok_law_weight (T : Tx K mg) : FnOk P w K mg base CX0 1 T.f_law_weight T.fd_law_weight ["product"] (SpF K false [false] F_law_weight) := by

  refine T.F_law_weight.ok sc_law_weight (fun vs H Q E h => ?_) (fun cdv A outer s H vs Q E hr h => ?_)
  · obtain ⟨S, pt, ds, d, _, _, ar, _⟩ := h
    rw [ar.len.1]; rfl
  · exact ⟨_, (pss_one (ps_ret (pe_op op_fdivX (pe_callB (cr_sum rfl) (by rfl) T.z_sum (by decide +kernel) (pa_cons (pe_lc (own := [("step", 1), ("power", 2)]) (g := gTup K 2 (gCons (gName 1) (gCons (gName 2) (gNil)))) (tt := tYes) (by rfl) sc_law_weight.nd (pi_any (pe_ix ix_seq (pv 0) pe_int (fun _ _ => rfl))) (blkOk_by (own := [("step", 1), ("power", 2)]) (N := ["product", "step", "power"]) (sc := defScope s_law_weight) (by decide +kernel)) (fun _ _ _ _ _ => (pg_tup rfl (pgs_cons (pg_name (i := 1) sc_law_weight.nd rfl (.inl rfl)) (pgs_cons (pg_name (i := 2) sc_law_weight.nd rfl (.inl rfl)) pgs_nil)))) (fun _ _ _ _ _ => pts_nil) (fun _ _ _ _ _ => (pv 2))) pa_nil)) pe_int))), SF.spF (b := B_law_weight) (n := 2) (N := ["product", "step", "power"]) (sf_ret (ef_op of_fdiv (EF.bf (ef_cb cf_sum (ab_cons (EF.bf (NF.ef (nf_lc (if_any (EF.yf (ef_op of_ix (bf_var 0) (EF.bf ef_int)))) (gf_tup (gsf_cons gf_name (gsf_cons gf_name (gsf_nil (vs := []))))) tf_yes (ef_var 2)))) ab_nil))) (EF.bf ef_int))) rfl h (fun z => nomatch z)⟩
def B_law_shift : Sx :=
  (sRet (xOp fdivF (xCb sumF (aCons (xLc (iA (xOp ixF (xBo 0) (xC (.int 1)))) (gT 2 (gsC (gN 1) (gsC (gN 2) gsN))) xYes (xOp mulF (xBo 1) (xBo 2)) [1, 2]) aNil)) (xC (.int 24))))
def F_law_shift : List D → Option D := runF 2 [false] B_law_shift

theorem ok_law_shift (T : Tx K mg) : FnOk P w K mg base CX0 1 T.f_law_shift T.fd_law_shift ["product"] (SpF K false [false] F_law_shift) := by

  refine T.F_law_shift.ok sc_law_shift (fun vs H Q E h => ?_) (fun cdv A outer s H vs Q E hr h => ?_)
  · obtain ⟨S, pt, ds, d, _, _, ar, _⟩ := h
    rw [ar.len.1]; rfl
  · exact ⟨_, (pss_one (ps_ret (pe_op op_fdivX (pe_callB (cr_sum rfl) (by rfl) T.z_sum (by decide +kernel) (pa_cons (pe_lc (own := [("step", 1), ("power", 2)]) (g := gTup K 2 (gCons (gName 1) (gCons (gName 2) (gNil)))) (tt := tYes) (by rfl) sc_law_shift.nd (pi_any (pe_ix ix_seq (pv 0) pe_int (fun _ _ => rfl))) (blkOk_by (own := [("step", 1), ("power", 2)]) (N := ["product", "step", "power"]) (sc := defScope s_law_shift) (by decide +kernel)) (fun _ _ _ _ _ => (pg_tup rfl (pgs_cons (pg_name (i := 1) sc_law_shift.nd rfl (.inl rfl)) (pgs_cons (pg_name (i := 2) sc_law_shift.nd rfl (.inl rfl)) pgs_nil)))) (fun _ _ _ _ _ => pts_nil) (fun _ _ _ _ _ => (pe_op op_mulA (pv 1) (pv 2)))) pa_nil)) pe_int))), SF.spF (b := B_law_shift) (n := 2) (N := ["product", "step", "power"]) (sf_ret (ef_op of_fdiv (EF.bf (ef_cb cf_sum (ab_cons (EF.bf (NF.ef (nf_lc (if_any (EF.yf (ef_op of_ix (bf_var 0) (EF.bf ef_int)))) (gf_tup (gsf_cons gf_name (gsf_cons gf_name (gsf_nil (vs := []))))) tf_yes (ef_op of_mulA (bf_var 1) (bf_var 2))))) ab_nil))) (EF.bf ef_int))) rfl h (fun z => nomatch z)⟩
def B_law_sign_c1 : FL.Tx :=
  (xT (xOp (eqF false) (xOp modF (xBo 7) (xBo 3)) (xC (.int 0))))
def B_law_sign_w1 : Sx :=
  (sPar 7 4 (aCons (xOp fdivF (xBo 7) (xBo 3)) (aCons (xOp addF (xBo 4) (xBo 6)) aNil)))
def B_law_sign_b1 : Sx :=
  (sSeq (sAsg (xVar 5) (gN 7))
  (whGo B_law_sign_c1 B_law_sign_w1 10000000))
def B_law_sign_b2 : Sx :=
  (sSeq (sAsg (xC (.int 0)) (gN 4))
  (sSeq (sFor (iA (xOp ixF (xBo 1) (xC (.int 1)))) (gT 2 (gsC (gN 5) (gsC (gN 6) gsN))) B_law_sign_b1)
  (sAsg (xIf (xT (xOp (eqF false) (xOp modF (xBo 4) (xC (.int 2))) (xC (.int 1)))) (xOp mulF (xBo 2) (xBo 3)) (xVar 2)) (gN 2))))
def B_law_sign : Sx :=
  (sSeq (sAsg (xIf (xT (xOp (eqF false) (xOp modF (xCb F_law_weight (aCons (xVar 1) aNil)) (xC (.int 2))) (xC (.int 0)))) (xC (.int 1)) (xUn negF (xC (.int 1)))) (gN 2))
  (sSeq (sFor (iA (xCb F_law_primes (aCons (xVar 0) aNil))) (gN 3) B_law_sign_b2)
  (sRet (xVar 2))))
def F_law_sign : List D → Option D := runF 6 [false, false] B_law_sign

theorem ok_law_sign (T : Tx K mg) : FnOk P w K mg base CX0 2 T.f_law_sign T.fd_law_sign ["level", "product"] (SpF K false [false, false] F_law_sign) := by
  have G_law_primes := ok_law_primes (P := P) (w := w) (base := base) T
  have G_law_weight := ok_law_weight (P := P) (w := w) (base := base) T
  refine T.F_law_sign.ok sc_law_sign (fun vs H Q E h => ?_) (fun cdv A outer s H vs Q E hr h => ?_)
  · obtain ⟨S, pt, ds, d, _, _, ar, _⟩ := h
    rw [ar.len.1]; rfl
  · exact ⟨_, (pss_cons (ps_set (i := 2) sc_law_sign.nd rfl (.inl rfl) (pe_ifExp (pt_cmpR (op_eqA hr.units) (pe_op op_modN (pe_call G_law_weight (hr.mono (by decide)) (by rfl) T.m_law_weight T.F_law_weight.kp T.b_law_weight .nil pass0 (pa_cons (pv 1) pa_nil)) pe_int) pe_int (nomark _)) pe_int (pe_un un_neg pe_int)))
  (pss_cons (ps_for PassesOwn.never rfl (pi_any (pe_call G_law_primes (hr.mono (by decide)) (by rfl) T.m_law_primes T.F_law_primes.kp T.b_law_primes .nil pass0 (pa_cons (pv 0) pa_nil))) (pg_name (i := 3) sc_law_sign.nd rfl (.inl rfl)) (pss_cons (ps_set (i := 4) sc_law_sign.nd rfl (.inl rfl) pe_int)
  (pss_cons (ps_for PassesOwn.never rfl (pi_any (pe_ix ix_seq (pv 1) pe_int (fun _ _ => rfl))) (pg_tup rfl (pgs_cons (pg_name (i := 5) sc_law_sign.nd rfl (.inl rfl)) (pgs_cons (pg_name (i := 6) sc_law_sign.nd rfl (.inl rfl)) pgs_nil))) (pss_cons (ps_set (i := 7) sc_law_sign.nd rfl (.inl rfl) (pv 5))
  (pss_one (ps_while PassesOwn.never (pt_cmpR (op_eqA hr.units) (pe_op op_modN (pv 7) (pv 3)) pe_int (nomark _)) (pss_one (ps_par (i := 7) (j := 4) rfl sc_law_sign.nd rfl rfl (by decide) rfl rfl (pa_cons (pe_op op_fdivX (pv 7) (pv 3)) (pa_cons (pe_op op_addA (pv 4) (pv 6)) pa_nil)) (by rfl)))))))
  (pss_one (ps_set (i := 2) sc_law_sign.nd rfl (.inl rfl) (pe_ifExp (pt_cmpR (op_eqA hr.units) (pe_op op_modN (pv 4) pe_int) pe_int (nomark _)) (pe_op op_mulA (pv 2) (pv 3)) (pv 2)))))))
  (pss_one (ps_ret (pv 2))))), SF.spF (b := B_law_sign) (n := 6) (N := ["level", "product", "found", "prime", "often", "step", "power", "left"]) (sf_seq (sf_asg (ef_if (tf_test (EF.bf (ef_op of_eq (EF.bf (ef_op of_mod (EF.bf (ef_call (ga_strict (ef_var 1) ga_nil))) (EF.bf ef_int))) (EF.bf ef_int)))) ef_int (ef_neg (EF.bf ef_int))) gf_name)
  (sf_seq (sf_for (if_any (EF.yf (NF.ef (nf_call (ga_strict (ef_var 0) ga_nil))))) gf_name (sf_seq (sf_asg ef_int gf_name)
  (sf_seq (sf_for (if_any (EF.yf (ef_op of_ix (bf_var 1) (EF.bf ef_int)))) (gf_tup (gsf_cons gf_name (gsf_cons gf_name (gsf_nil (vs := []))))) (sf_seq (sf_asg (ef_var 5) gf_name)
  (sf_while 10000000 (tf_test (EF.bf (ef_op of_eq (EF.bf (ef_op of_mod (bf_var 7) (bf_var 3))) (EF.bf ef_int)))) (sf_par (af_cons (ef_op of_fdiv (bf_var 7) (bf_var 3)) (af_cons (ef_op of_addA (bf_var 4) (bf_var 6)) af_nil))))))
  (sf_asg (ef_if (tf_test (EF.bf (ef_op of_eq (EF.bf (ef_op of_mod (bf_var 4) (EF.bf ef_int))) (EF.bf ef_int)))) (ef_op of_mulA (bf_var 2) (bf_var 3)) (ef_var 2)) gf_name))))
  (sf_ret (ef_var 2)))) rfl h (fun z => nomatch z)⟩
def B_law_symbol : Sx :=
  (sSeq (sAsg (xOp modF (xCb toIntF (aCons (xBo 0) aNil)) (xBo 1)) (gN 2))
  (sRet (xIf (xT (xOp (eqF false) (xBo 2) (xC (.int 0)))) (xC (.int 0)) (xIf (xT (xOp inF (xBo 2) (xLc (iR (aCons (xC (.int 1)) (aCons (xBo 1) aNil))) (gN 3) xYes (xOp modF (xOp mulF (xBo 3) (xBo 3)) (xBo 1)) [3]))) (xC (.int 1)) (xUn negF (xC (.int 1)))))))
def F_law_symbol : List D → Option D := runF 2 [false, false] B_law_symbol

theorem ok_law_symbol (T : Tx K mg) : FnOk P w K mg base CX0 1 T.f_law_symbol T.fd_law_symbol ["number", "prime"] (SpF K false [false, false] F_law_symbol) := by

  refine T.F_law_symbol.ok sc_law_symbol (fun vs H Q E h => ?_) (fun cdv A outer s H vs Q E hr h => ?_)
  · obtain ⟨S, pt, ds, d, _, _, ar, _⟩ := h
    rw [ar.len.1]; rfl
  · exact ⟨_, (pss_cons (ps_set (i := 2) sc_law_symbol.nd rfl (.inl rfl) (pe_op op_modN (pe_callTy call_int1 (by rfl) T.z_int (by decide +kernel) (pa_cons (pv 0) pa_nil)) (pv 1)))
  (pss_one (ps_ret (pe_ifExp (pt_cmpR (op_eqA hr.units) (pv 2) pe_int (nomark _)) pe_int (pe_ifExp (pt_cmpR (op_inA (un66 hr)) (pv 2) (pe_lc (own := [("one", 3)]) (g := gName 3) (tt := tYes) (by rfl) sc_law_symbol.nd (pi_range2 (by rfl) T.z_range (pa_cons pe_int (pa_cons (pv 1) pa_nil))) (blkOk_by (own := [("one", 3)]) (N := ["number", "prime", "rest", "one"]) (sc := defScope s_law_symbol) (by decide +kernel)) (fun _ _ _ _ _ => pg_name (i := 3) sc_law_symbol.nd rfl (.inl rfl)) (fun _ _ _ _ _ => pts_nil) (fun _ _ _ _ _ => (pe_op op_modN (pe_op op_mulA (pv 3) (pv 3)) (pv 1)))) (by rfl)) pe_int (pe_un un_neg pe_int)))))), SF.spF (b := B_law_symbol) (n := 2) (N := ["number", "prime", "rest", "one"]) (sf_seq (sf_asg (ef_op of_mod (EF.bf (ef_cb cf_int (ab_cons (bf_var 0) ab_nil))) (bf_var 1)) gf_name)
  (sf_ret (ef_if (tf_test (EF.bf (ef_op of_eq (bf_var 2) (EF.bf ef_int)))) ef_int (ef_if (tf_test (EF.bf (ef_op of_in (bf_var 2) (EF.bf (NF.ef (nf_lc (if_rng2 (EF.bf ef_int) (bf_var 1)) gf_name tf_yes (ef_op of_mod (EF.bf (ef_op of_mulA (bf_var 3) (bf_var 3))) (bf_var 1)))))))) ef_int (ef_neg (EF.bf ef_int)))))) rfl h (fun z => nomatch z)⟩
def B_law_placed_b1 : Sx :=
  (sSet 2 (xOp subF (xOp ixF (xBo 2) (xBo 7)) (xOp mulF (xBo 6) (xBo 5))) (xBo 7))
def B_law_placed_b2 : Sx :=
  (sFor (iR3 (aCons (xBo 6) (aCons (xBo 1) (aCons (xBo 6) aNil)))) (gN 7) B_law_placed_b1)
def B_law_placed_b3 : Sx :=
  (sFor (iR3 (aCons (xBo 4) (aCons (xBo 1) (aCons (xBo 4) aNil)))) (gN 6) B_law_placed_b2)
def B_law_placed_b4 : Sx :=
  (sApp 3 (xOp fdivF (xCb sumF (aCons (xLc (iR (aCons (xC (.int 1)) (aCons (xOp addF (xBo 8) (xC (.int 1))) aNil))) (gN 9) xYes (xOp mulF (xOp ixF (xBo 2) (xBo 9)) (xOp ixF (xBo 3) (xOp subF (xBo 8) (xBo 9)))) [9]) aNil)) (xBo 8)))
def B_law_placed : Sx :=
  (sSeq (sMany [2, 3] [true, true] (aCons (xOp repF (xLst (aCons (xC (.int 0)) aNil)) (xBo 1)) (aCons (xLst (aCons (xC (.int 1)) aNil)) aNil)))
  (sSeq (sFor (iA (xOp ixF (xBo 0) (xC (.int 1)))) (gT 2 (gsC (gN 4) (gsC (gN 5) gsN))) B_law_placed_b3)
  (sSeq (sFor (iR (aCons (xC (.int 1)) (aCons (xBo 1) aNil))) (gN 8) B_law_placed_b4)
  (sRet (xSl cutL (xOp addF (xOp mulF (xLst (aCons (xC (.int 0)) aNil)) (xCb F_law_shift (aCons (xVar 0) aNil))) (xBo 3)) xPn (xPo (xBo 1)))))))
def F_law_placed : List D → Option D := runF 8 [false, false] B_law_placed

theorem ok_law_placed (T : Tx K mg) : FnOk P w K mg base CX0 2 T.f_law_placed T.fd_law_placed ["product", "many"] (SpF K true [false, false] F_law_placed) := by
  have G_law_shift := ok_law_shift (P := P) (w := w) (base := base) T
  refine T.F_law_placed.ok sc_law_placed (fun vs H Q E h => ?_) (fun cdv A outer s H vs Q E hr h => ?_)
  · obtain ⟨S, pt, ds, d, _, _, ar, _⟩ := h
    rw [ar.len.1]; rfl
  · exact ⟨_, (pss_cons (ps_asg (pe_tup (pa_cons (pe_op op_mulA (pe_lst (pa_cons pe_int pa_nil)) (pv 1)) (pa_cons (pe_lst (pa_cons pe_int pa_nil)) pa_nil))) (pg_tup rfl (pgs_cons (pg_name (i := 2) sc_law_placed.nd rfl (.inr rfl)) (pgs_cons (pg_name (i := 3) sc_law_placed.nd rfl (.inr rfl)) pgs_nil))))
  (pss_cons (ps_for PassesOwn.never rfl (pi_any (pe_ix ix_seq (pv 0) pe_int (fun _ _ => rfl))) (pg_tup rfl (pgs_cons (pg_name (i := 4) sc_law_placed.nd rfl (.inl rfl)) (pgs_cons (pg_name (i := 5) sc_law_placed.nd rfl (.inl rfl)) pgs_nil))) (pss_one (ps_for PassesOwn.never rfl (pi_range3 (by rfl) T.z_range (pa_cons (pv 4) (pa_cons (pv 1) (pa_cons (pv 4) pa_nil)))) (pg_name (i := 6) sc_law_placed.nd rfl (.inl rfl)) (pss_one (ps_for PassesOwn.never rfl (pi_range3 (by rfl) T.z_range (pa_cons (pv 6) (pa_cons (pv 1) (pa_cons (pv 6) pa_nil)))) (pg_name (i := 7) sc_law_placed.nd rfl (.inl rfl)) (pss_one (ps_asg (pe_op op_sub (pe_ix ix_seq (pv 2) (pv 7) (fun _ _ => rfl)) (pe_op op_mulA (pv 6) (pv 5))) (pg_sub (pv 2) (pv 7) set_list))))))))
  (pss_cons (ps_for PassesOwn.never rfl (pi_range2 (by rfl) T.z_range (pa_cons pe_int (pa_cons (pv 1) pa_nil))) (pg_name (i := 8) sc_law_placed.nd rfl (.inr rfl)) (pss_one (ps_expr (pe_bm PySem.F.plainAttrs_list PySem.F.slot_list_append PySem.F.type_list_append mt_append (pv 3) (pa_cons (pe_op op_fdivX (pe_callB (cr_sum rfl) (by rfl) T.z_sum (by decide +kernel) (pa_cons (pe_lc (own := [("k", 9)]) (g := gName 9) (tt := tYes) (by rfl) sc_law_placed.nd (pi_range2 (by rfl) T.z_range (pa_cons pe_int (pa_cons (pe_op op_addA (pv 8) pe_int) pa_nil))) (blkOk_by (own := [("k", 9)]) (N := ["product", "many", "sums", "found", "step", "power", "factor", "place", "n", "k"]) (sc := defScope s_law_placed) (by decide +kernel)) (fun _ _ _ _ _ => pg_name (i := 9) sc_law_placed.nd rfl (.inl rfl)) (fun _ _ _ _ _ => pts_nil) (fun _ _ _ _ _ => (pe_op op_mulA (pe_ix ix_seq (pv 2) (pv 9) (fun _ _ => rfl)) (pe_ix ix_seq (pv 3) (pe_op op_sub (pv 8) (pv 9)) (fun _ _ => rfl))))) pa_nil)) (pv 8)) pa_nil)))))
  (pss_one (ps_ret (pe_slice sl_any (pe_op op_addA (pe_op op_mulA (pe_lst (pa_cons pe_int pa_nil)) (pe_call G_law_shift (hr.mono (by decide)) (by rfl) T.m_law_shift T.F_law_shift.kp T.b_law_shift .nil pass0 (pa_cons (pv 0) pa_nil))) (pv 3)) po_none (po_some (pv 1)))))))), SF.spF (b := B_law_placed) (n := 8) (N := ["product", "many", "sums", "found", "step", "power", "factor", "place", "n", "k"]) (sf_seq (sf_manyT (mf_new (nf_op on_mulA (EF.bf (NF.ef (nf_lst (af_cons ef_int af_nil)))) (bf_var 1)) (mf_new (nf_lst (af_cons ef_int af_nil)) mf_nil)))
  (sf_seq (sf_for (if_any (EF.yf (ef_op of_ix (bf_var 0) (EF.bf ef_int)))) (gf_tup (gsf_cons gf_name (gsf_cons gf_name (gsf_nil (vs := []))))) (sf_for (if_rng3 (bf_var 4) (bf_var 1) (bf_var 4)) gf_name (sf_for (if_rng3 (bf_var 6) (bf_var 1) (bf_var 6)) gf_name (sf_set (ef_op of_sub (EF.bf (ef_op of_ix (bf_var 2) (bf_var 7))) (EF.bf (ef_op of_mulA (bf_var 6) (bf_var 5)))) (bf_var 7)))))
  (sf_seq (sf_for (if_rng2 (EF.bf ef_int) (bf_var 1)) gf_name (sf_app (ef_op of_fdiv (EF.bf (ef_cb cf_sum (ab_cons (EF.bf (NF.ef (nf_lc (if_rng2 (EF.bf ef_int) (EF.bf (ef_op of_addA (bf_var 8) (EF.bf ef_int)))) gf_name tf_yes (ef_op of_mulA (EF.bf (ef_op of_ix (bf_var 2) (bf_var 9))) (EF.bf (ef_op of_ix (bf_var 3) (EF.bf (ef_op of_sub (bf_var 8) (bf_var 9))))))))) ab_nil))) (bf_var 8))))
  (sf_retN (nf_sl sn_any (EF.bf (ef_op of_addA (EF.bf (ef_op of_mulA (EF.bf (NF.ef (nf_lst (af_cons ef_int af_nil)))) (EF.bf (ef_call (ga_strict (ef_var 0) ga_nil))))) (bf_var 3))) pf_none (pf_some (bf_var 1))))))) rfl h (fun _ => (nn_seq (nn_seq (nn_seq nn_ret))))⟩
def B_law_carried_b1 : Sx :=
  (sAsg (xOp mulF (xBo 6) (xBo 2)) (gN 6))
def B_law_carried : Sx :=
  (sSeq (sAsg (xTup (aCons (xCb F_law_symbol (aCons (xVar 1) (aCons (xVar 2) aNil))) (aCons (xC (.int 1)) aNil))) (gT 2 (gsC (gN 5) (gsC (gN 6) gsN))))
  (sSeq (sFor (iR (aCons (xOp subF (xCb F_law_weight (aCons (xVar 0) aNil)) (xC (.int 1))) aNil)) (gN 7) B_law_carried_b1)
  (sRet (xLc (iR (aCons (xBo 4) aNil)) (gN 8) xYes (xOp addF (xOp ixF (xBo 3) (xOp mulF (xBo 2) (xBo 8))) (xIf (xT (xOp (eqF false) (xOp modF (xBo 8) (xBo 2)) (xC (.int 0)))) (xOp mulF (xOp mulF (xBo 5) (xBo 6)) (xOp ixF (xBo 3) (xOp fdivF (xBo 8) (xBo 2)))) (xC (.int 0)))) [8]))))
def F_law_carried : List D → Option D := runF 4 [false, false, false, false, false] B_law_carried

theorem ok_law_carried (T : Tx K mg) : FnOk P w K mg base CX0 2 T.f_law_carried T.fd_law_carried ["product", "sign", "prime", "placed", "many"] (SpF K true [false, false, false, false, false] F_law_carried) := by
  have G_law_symbol := ok_law_symbol (P := P) (w := w) (base := base) T
  have G_law_weight := ok_law_weight (P := P) (w := w) (base := base) T
  refine T.F_law_carried.ok sc_law_carried (fun vs H Q E h => ?_) (fun cdv A outer s H vs Q E hr h => ?_)
  · obtain ⟨S, pt, ds, d, _, _, ar, _⟩ := h
    rw [ar.len.1]; rfl
  · exact ⟨_, (pss_cons (ps_asg (pe_tup (pa_cons (pe_call G_law_symbol (hr.mono (by decide)) (by rfl) T.m_law_symbol T.F_law_symbol.kp T.b_law_symbol .nil pass0 (pa_cons (pv 1) (pa_cons (pv 2) pa_nil))) (pa_cons pe_int pa_nil))) (pg_tup rfl (pgs_cons (pg_name (i := 5) sc_law_carried.nd rfl (.inr rfl)) (pgs_cons (pg_name (i := 6) sc_law_carried.nd rfl (.inr rfl)) pgs_nil))))
  (pss_cons (ps_for PassesOwn.never rfl (pi_range1 (by rfl) T.z_range (pa_cons (pe_op op_sub (pe_call G_law_weight (hr.mono (by decide)) (by rfl) T.m_law_weight T.F_law_weight.kp T.b_law_weight .nil pass0 (pa_cons (pv 0) pa_nil)) pe_int) pa_nil)) (pg_name (i := 7) sc_law_carried.nd rfl (.inl rfl)) (pss_one (ps_set (i := 6) sc_law_carried.nd rfl (.inr rfl) (pe_op op_mulA (pv 6) (pv 2)))))
  (pss_one (ps_ret (pe_lc (own := [("n", 8)]) (g := gName 8) (tt := tYes) (by rfl) sc_law_carried.nd (pi_range1 (by rfl) T.z_range (pa_cons (pv 4) pa_nil)) (blkOk_by (own := [("n", 8)]) (N := ["product", "sign", "prime", "placed", "many", "e", "factor", "turn", "n"]) (sc := defScope s_law_carried) (by decide +kernel)) (fun _ _ _ _ _ => pg_name (i := 8) sc_law_carried.nd rfl (.inl rfl)) (fun _ _ _ _ _ => pts_nil) (fun _ _ _ _ _ => (pe_op op_addA (pe_ix ix_seq (pv 3) (pe_op op_mulA (pv 2) (pv 8)) (fun _ _ => rfl)) (pe_ifExp (pt_cmpR (op_eqA hr.units) (pe_op op_modN (pv 8) (pv 2)) pe_int (nomark _)) (pe_op op_mulA (pe_op op_mulA (pv 5) (pv 6)) (pe_ix ix_seq (pv 3) (pe_op op_fdivX (pv 8) (pv 2)) (fun _ _ => rfl))) pe_int)))))))), SF.spF (b := B_law_carried) (n := 4) (N := ["product", "sign", "prime", "placed", "many", "e", "factor", "turn", "n"]) (sf_seq (sf_asg (ef_tup (af_cons (ef_call (ga_strict (ef_var 1) (ga_strict (ef_var 2) ga_nil))) (af_cons ef_int af_nil))) (gf_tup (gsf_cons gf_name (gsf_cons gf_name (gsf_nil (vs := []))))))
  (sf_seq (sf_for (if_rng1 (EF.bf (ef_op of_sub (EF.bf (ef_call (ga_strict (ef_var 0) ga_nil))) (EF.bf ef_int)))) gf_name (sf_asg (ef_op of_mulA (bf_var 6) (bf_var 2)) gf_name))
  (sf_retN (nf_lc (if_rng1 (bf_var 4)) gf_name tf_yes (ef_op of_addA (EF.bf (ef_op of_ix (bf_var 3) (EF.bf (ef_op of_mulA (bf_var 2) (bf_var 8))))) (bf_if (tf_test (EF.bf (ef_op of_eq (EF.bf (ef_op of_mod (bf_var 8) (bf_var 2))) (EF.bf ef_int)))) (EF.bf (ef_op of_mulA (EF.bf (ef_op of_mulA (bf_var 5) (bf_var 6))) (EF.bf (ef_op of_ix (bf_var 3) (EF.bf (ef_op of_fdiv (bf_var 8) (bf_var 2))))))) (EF.bf ef_int))))))) rfl h (fun _ => (nn_seq (nn_seq nn_ret)))⟩
def B_law_asked_b1 : Sx :=
  (sAsg (xOp mulF (xOp fdivF (xBo 2) (xBo 3)) (xOp addF (xBo 3) (xC (.int 1)))) (gN 2))
def B_law_asked : Sx :=
  (sSeq (sAsg (xVar 0) (gN 2))
  (sSeq (sFor (iA (xCb F_law_primes (aCons (xVar 0) aNil))) (gN 3) B_law_asked_b1)
  (sRet (xOp fdivF (xOp mulF (xCb F_law_weight (aCons (xVar 1) aNil)) (xBo 2)) (xC (.int 12))))))
def F_law_asked : List D → Option D := runF 2 [false, false] B_law_asked

theorem ok_law_asked (T : Tx K mg) : FnOk P w K mg base CX0 2 T.f_law_asked T.fd_law_asked ["level", "product"] (SpF K false [false, false] F_law_asked) := by
  have G_law_primes := ok_law_primes (P := P) (w := w) (base := base) T
  have G_law_weight := ok_law_weight (P := P) (w := w) (base := base) T
  refine T.F_law_asked.ok sc_law_asked (fun vs H Q E h => ?_) (fun cdv A outer s H vs Q E hr h => ?_)
  · obtain ⟨S, pt, ds, d, _, _, ar, _⟩ := h
    rw [ar.len.1]; rfl
  · exact ⟨_, (pss_cons (ps_set (i := 2) sc_law_asked.nd rfl (.inl rfl) (pv 0))
  (pss_cons (ps_for PassesOwn.never rfl (pi_any (pe_call G_law_primes (hr.mono (by decide)) (by rfl) T.m_law_primes T.F_law_primes.kp T.b_law_primes .nil pass0 (pa_cons (pv 0) pa_nil))) (pg_name (i := 3) sc_law_asked.nd rfl (.inl rfl)) (pss_one (ps_set (i := 2) sc_law_asked.nd rfl (.inl rfl) (pe_op op_mulA (pe_op op_fdivX (pv 2) (pv 3)) (pe_op op_addA (pv 3) pe_int)))))
  (pss_one (ps_ret (pe_op op_fdivX (pe_op op_mulA (pe_call G_law_weight (hr.mono (by decide)) (by rfl) T.m_law_weight T.F_law_weight.kp T.b_law_weight .nil pass0 (pa_cons (pv 1) pa_nil)) (pv 2)) pe_int))))), SF.spF (b := B_law_asked) (n := 2) (N := ["level", "product", "index", "prime"]) (sf_seq (sf_asg (ef_var 0) gf_name)
  (sf_seq (sf_for (if_any (EF.yf (NF.ef (nf_call (ga_strict (ef_var 0) ga_nil))))) gf_name (sf_asg (ef_op of_mulA (EF.bf (ef_op of_fdiv (bf_var 2) (bf_var 3))) (EF.bf (ef_op of_addA (bf_var 3) (EF.bf ef_int)))) gf_name))
  (sf_ret (ef_op of_fdiv (EF.bf (ef_op of_mulA (EF.bf (ef_call (ga_strict (ef_var 1) ga_nil))) (bf_var 2))) (EF.bf ef_int))))) rfl h (fun z => nomatch z)⟩
def B_law_due_b1 : Sx :=
  (sSeq (sAsg (xOp subF (xOp ixF (xBo 1) (xBo 5)) (xOp mulF (xBo 4) (xOp ixF (xBo 0) (xBo 5)))) (gN 6))
  (sIf (xT (xOp (eqF true) (xBo 6) (xC (.int 0)))) (sRet (xIf (xT (xOp (cmpF fun i j => decide (i ≤ j)) (xBo 5) (xBo 3))) (xTup (aCons (xC (.str "place")) (aCons (xVar 5) (aCons (xVar 6) aNil)))) (xC .none))) sNext))
def B_law_due : Sx :=
  (sSeq (sAsg (xOp ixF (xBo 1) (xBo 2)) (gN 4))
  (sSeq (sFor (iR (aCons (xCb lenF (aCons (xBo 1) aNil)) aNil)) (gN 5) B_law_due_b1)
  (sRet (xTup (aCons (xC (.str "multiple")) (aCons (xVar 4) aNil))))))
def F_law_due : List D → Option D := runF 3 [false, false, false, false] B_law_due

theorem ok_law_due (T : Tx K mg) : FnOk P w K mg base CX0 1 T.f_law_due T.fd_law_due ["placed", "carried", "shift", "bound"] (SpF K false [false, false, false, false] F_law_due) := by

  refine T.F_law_due.ok sc_law_due (fun vs H Q E h => ?_) (fun cdv A outer s H vs Q E hr h => ?_)
  · obtain ⟨S, pt, ds, d, _, _, ar, _⟩ := h
    rw [ar.len.1]; rfl
  · exact ⟨_, (pss_cons (ps_set (i := 4) sc_law_due.nd rfl (.inl rfl) (pe_ix ix_seq (pv 1) (pv 2) (fun _ _ => rfl)))
  (pss_cons (ps_for PassesOwn.never rfl (pi_range1 (by rfl) T.z_range (pa_cons (pe_callB call_len (by rfl) T.z_len (by decide +kernel) (pa_cons (pv 1) pa_nil)) pa_nil)) (pg_name (i := 5) sc_law_due.nd rfl (.inl rfl)) (pss_cons (ps_set (i := 6) sc_law_due.nd rfl (.inl rfl) (pe_op op_sub (pe_ix ix_seq (pv 1) (pv 5) (fun _ _ => rfl)) (pe_op op_mulA (pv 4) (pe_ix ix_seq (pv 0) (pv 5) (fun _ _ => rfl)))))
  (pss_one (ps_if (pt_cmpR (op_neA hr.units) (pv 6) pe_int (nomark _)) (pss_one (ps_ret (pe_ifExp (pt_cmpR op_le (pv 5) (pv 3) (nomark _)) (pe_tup (pa_cons pe_str (pa_cons (pv 5) (pa_cons (pv 6) pa_nil)))) pe_non))) pss_nil))))
  (pss_one (ps_ret (pe_tup (pa_cons pe_str (pa_cons (pv 4) pa_nil))))))), SF.spF (b := B_law_due) (n := 3) (N := ["placed", "carried", "shift", "bound", "number", "n", "gap"]) (sf_seq (sf_asg (ef_op of_ix (bf_var 1) (bf_var 2)) gf_name)
  (sf_seq (sf_for (if_rng1 (EF.bf (ef_cb cf_len (ab_cons (bf_var 1) ab_nil)))) gf_name (sf_seq (sf_asg (ef_op of_sub (EF.bf (ef_op of_ix (bf_var 1) (bf_var 5))) (EF.bf (ef_op of_mulA (bf_var 4) (EF.bf (ef_op of_ix (bf_var 0) (bf_var 5)))))) gf_name)
  (sf_if (tf_test (EF.bf (ef_op of_ne (bf_var 6) (EF.bf ef_int)))) (sf_ret (ef_if (tf_test (EF.bf (ef_op of_cmp (bf_var 5) (bf_var 3)))) (ef_tup (af_cons ef_str (af_cons (ef_var 5) (af_cons (ef_var 6) af_nil)))) ef_non)) sf_next)))
  (sf_ret (ef_tup (af_cons ef_str (af_cons (ef_var 4) af_nil)))))) rfl h (fun z => nomatch z)⟩
def B_law_right : Sx :=
  (sSeq (sAsg (xCallP 0 F_law_drawn aNil) (gT 2 (gsC (gN 1) (gsC (gN 2) gsN))))
  (sSeq (sAsg (xTup (aCons (xCb F_law_asked (aCons (xVar 1) (aCons (xVar 2) aNil))) (aCons (xCb F_law_sign (aCons (xVar 1) (aCons (xVar 2) aNil))) aNil))) (gT 2 (gsC (gN 3) (gsC (gN 4) gsN))))
  (sSeq (sAsg (xLc (iA (xLst (aCons (xC (.int 3)) (aCons (xC (.int 5)) (aCons (xC (.int 7)) (aCons (xC (.int 11)) (aCons (xC (.int 13)) (aCons (xC (.int 17)) (aCons (xC (.int 19)) aNil))))))))) (gN 13) (xAnd (xT (xOp (eqF true) (xOp modF (xBo 1) (xBo 13)) (xC (.int 0)))) (xT (xOp (cmpF fun i j => decide (i < j)) (xOp mulF (xBo 13) (xOp addF (xBo 3) (xC (.int 3)))) (xC (.int 96))))) (xVar 13) [13]) (gN 5))
  (sSeq (sIf (xT (xOp (eqF false) (xBo 5) (xLst aNil))) (sRet (xOp (eqF false) (xCb F_places_asked (aCons (xVar 1) (aCons (xVar 2) aNil))) (xBo 3))) sNext)
  (sSeq (sAsg (xCallP 0 F_law_pick (aCons (xVar 5) aNil)) (gN 6))
  (sSeq (sAsg (xOp addF (xBo 3) (xC (.int 3))) (gN 7))
  (sSeq (sAsg (xCb F_law_placed (aCons (xVar 2) (aCons (xOp mulF (xBo 6) (xBo 7)) aNil))) (gN 8))
  (sSeq (sAsg (xCb F_law_carried (aCons (xVar 2) (aCons (xVar 4) (aCons (xVar 6) (aCons (xVar 8) (aCons (xVar 7) aNil)))))) (gN 9))
  (sSeq (sIf (xOr (xT (xOp (eqF true) (xCb F_placed_row (aCons (xVar 1) (aCons (xVar 2) (aCons (xVar 7) aNil)))) (xSl cutA (xBo 8) xPn (xPo (xBo 7))))) (xT (xOp (eqF true) (xCallK F_places_asked (fun us ws => match us, ws with | [], [ws0, ws1] => [ws1, ws0] | _, _ => []) aNil (aCons (xVar 2) (aCons (xVar 1) aNil))) (xBo 3)))) (sRet (xC (.bool false))) sNext)
  (sSeq (sAsg (xCb F_carried_row (aCons (xVar 1) (aCons (xVar 2) (aCons (xVar 6) (aCons (xVar 7) aNil))))) (oN 10))
  (sSeq (sIf (xOr (xT (xOp (eqF true) (xBo 10) (xBo 9))) (xT (xOp (eqF true) (xCb reprF (aCons (xCb F_symbol_at (aCons (xVar 1) (aCons (xVar 2) (aCons (xVar 6) aNil)))) aNil)) (xCb reprF (aCons (xCb F_law_symbol (aCons (xVar 4) (aCons (xVar 6) aNil))) aNil))))) (sRet (xC (.bool false))) sNext)
  (sSeq (sApp 10 (xC .none))
  (sSeq (sAsg (xCb F_law_due (aCons (xVar 8) (aCons (xVar 9) (aCons (xCb F_law_shift (aCons (xVar 2) aNil)) (aCons (xVar 3) aNil))))) (gN 11))
  (sSeq (sIf (xOr (xT (xOp (isNF false) (xBo 11) (xC .none))) (xT (xOp (eqF true) (xCallK F_decided_multiple (fun us ws => match us, ws with | [], [ws0, ws1, ws2] => [ws2, ws1, ws0] | _, _ => []) aNil (aCons (xVar 6) (aCons (xVar 2) (aCons (xVar 1) aNil)))) (xBo 11)))) (sRet (xC (.bool false))) sNext)
  (sSeq (sAsg (xOp ixF (xBo 9) (xCb F_law_shift (aCons (xVar 2) aNil))) (gN 12))
  (sSeq (sAsg (xLst (aCons (xCb F_is_multiple (aCons (xVar 1) (aCons (xVar 2) (aCons (xVar 6) (aCons (xVar 12) aNil))))) (aCons (xCallK F_is_multiple (fun us ws => match us, ws with | [], [ws0, ws1, ws2, ws3] => [ws3, ws2, ws1, ws0] | _, _ => []) aNil (aCons (xOp addF (xBo 12) (xC (.int 1))) (aCons (xVar 6) (aCons (xVar 2) (aCons (xVar 1) aNil))))) aNil))) (oN 10))
  (sRet (xOp (eqF false) (xCb reprF (aCons (xBo 10) aNil)) (xCb reprF (aCons (xLst (aCons (xOp (eqF false) (xOp ixF (xBo 11) (xC (.int 0))) (xC (.str "multiple"))) (aCons (xC (.bool false)) aNil))) aNil))))))))))))))))))))
def F_law_right : Pot → List D → Option (D × Pot) := runP 13 [] B_law_right

theorem ok_law_right (T : Tx K mg) : GOk P w K mg base 9 T.f_law_right T.fd_law_right ["pot"] (SpP K false [] F_law_right) := by
  have G_law_asked := ok_law_asked (P := P) (w := w) (base := base) T
  have G_law_carried := ok_law_carried (P := P) (w := w) (base := base) T
  have G_law_drawn := ok_law_drawn (P := P) (w := w) (base := base) T
  have G_law_due := ok_law_due (P := P) (w := w) (base := base) T
  have G_law_pick := ok_law_pick (P := P) (w := w) (base := base) T
  have G_law_placed := ok_law_placed (P := P) (w := w) (base := base) T
  have G_law_shift := ok_law_shift (P := P) (w := w) (base := base) T
  have G_law_sign := ok_law_sign (P := P) (w := w) (base := base) T
  have G_law_symbol := ok_law_symbol (P := P) (w := w) (base := base) T
  have G_carried_row := ok_carried_row (P := P) (w := w) (base := base) T
  have G_decided_multiple := ok_decided_multiple (P := P) (w := w) (base := base) T
  have G_is_multiple := ok_is_multiple (P := P) (w := w) (base := base) T
  have G_placed_row := ok_placed_row (P := P) (w := w) (base := base) T
  have G_places_asked := ok_places_asked (P := P) (w := w) (base := base) T
  have G_symbol_at := ok_symbol_at (P := P) (w := w) (base := base) T
  refine gok T.F_law_right sc_law_right (fun vs H Q E h => ?_) (fun cdv A outer s H vs Q hg hr h => ?_)
  · obtain ⟨S, a, ws, π, ds, d, π', rfl, _, _, _, ar, _⟩ := h
    show ws.length + 1 = _
    rw [ar.len.1]; rfl
  · exact ⟨_, (pss_cons (ps_asg (pe_call G_law_drawn (hr.mono (by decide)) (by rfl) T.m_law_drawn T.F_law_drawn.kp T.b_law_drawn .nil pass0 (pa_cons (pv 0) pa_nil)) (pg_tup rfl (pgs_cons (pg_name (i := 1) sc_law_right.nd rfl (.inr rfl)) (pgs_cons (pg_name (i := 2) sc_law_right.nd rfl (.inl rfl)) pgs_nil))))
  (pss_cons (ps_asg (pe_tup (pa_cons (pe_call G_law_asked (hr.mono (by decide)) (by rfl) T.m_law_asked T.F_law_asked.kp T.b_law_asked .nil pass0 (pa_cons (pv 1) (pa_cons (pv 2) pa_nil))) (pa_cons (pe_call G_law_sign (hr.mono (by decide)) (by rfl) T.m_law_sign T.F_law_sign.kp T.b_law_sign .nil pass0 (pa_cons (pv 1) (pa_cons (pv 2) pa_nil))) pa_nil))) (pg_tup rfl (pgs_cons (pg_name (i := 3) sc_law_right.nd rfl (.inr rfl)) (pgs_cons (pg_name (i := 4) sc_law_right.nd rfl (.inl rfl)) pgs_nil))))
  (pss_cons (ps_setLc (i := 5) (own := [("one", 13)]) (g := gName 13) rfl sc_law_right.nd rfl rfl (sw_true rfl rfl rfl (by decide +kernel)) (pi_any (pe_lst (pa_cons pe_int (pa_cons pe_int (pa_cons pe_int (pa_cons pe_int (pa_cons pe_int (pa_cons pe_int (pa_cons pe_int pa_nil))))))))) (blkOk_by (own := [("one", 13)]) (N := ["pot", "level", "product", "bound", "sign", "some", "prime", "many", "placed", "carried", "told", "due", "number", "one"]) (sc := defScope s_law_right) (by decide +kernel)) (fun _ _ _ _ _ => pg_name (i := 13) sc_law_right.nd rfl (.inl rfl)) (fun _ _ _ _ _ => (pts_one (PW.pt (pw_and (pt_cmpR (op_neA hr.units) (pe_op op_modN (pv 1) (pv 13)) pe_int (nomark _)) (pw_and1 (pt_cmpR op_lt (pe_op op_mulA (pv 13) (pe_op op_addA (pv 3) pe_int)) pe_int (nomark _))))))) (fun _ _ _ _ _ => (pv 13)))
  (pss_cons (ps_if (pt_cmpR (op_eqA hr.units) (pv 5) (pe_lst pa_nil) (nomark _)) (pss_one (ps_ret (pe_cmpR (op_eqA hr.units) (pe_call G_places_asked (hr.mono (by decide)) (by rfl) T.m_places_asked T.F_places_asked.kp T.b_places_asked .nil pass0 (pa_cons (pv 1) (pa_cons (pv 2) pa_nil))) (pv 3) (nomark _)))) pss_nil)
  (pss_cons (ps_set (i := 6) sc_law_right.nd rfl (.inl rfl) (pe_call G_law_pick (hr.mono (by decide)) (by rfl) T.m_law_pick T.F_law_pick.kp T.b_law_pick .nil pass0 (pa_cons (pv 0) (pa_cons (pv 5) pa_nil))))
  (pss_cons (ps_set (i := 7) sc_law_right.nd rfl (.inl rfl) (pe_op op_addA (pv 3) pe_int))
  (pss_cons (ps_set (i := 8) sc_law_right.nd rfl (.inl rfl) (pe_call G_law_placed (hr.mono (by decide)) (by rfl) T.m_law_placed T.F_law_placed.kp T.b_law_placed .nil pass0 (pa_cons (pv 2) (pa_cons (pe_op op_mulA (pv 6) (pv 7)) pa_nil))))
  (pss_cons (ps_set (i := 9) sc_law_right.nd rfl (.inl rfl) (pe_call G_law_carried (hr.mono (by decide)) (by rfl) T.m_law_carried T.F_law_carried.kp T.b_law_carried .nil pass0 (pa_cons (pv 2) (pa_cons (pv 4) (pa_cons (pv 6) (pa_cons (pv 8) (pa_cons (pv 7) pa_nil)))))))
  (pss_cons (ps_if (PW.pt (pw_or (pt_cmpR (op_neA hr.units) (pe_call G_placed_row (hr.mono (by decide)) (by rfl) T.m_placed_row T.F_placed_row.kp T.b_placed_row .nil pass0 (pa_cons (pv 1) (pa_cons (pv 2) (pa_cons (pv 7) pa_nil)))) (pe_slice sl_any (pv 8) po_none (po_some (pv 7))) (nomark _)) (pw_or1 (pt_cmpR (op_neA hr.units) (pe_kcall G_places_asked (hr.mono (by decide)) (by rfl) T.m_places_asked T.F_places_asked.kp T.kb_places_asked_0 pass0 (pk_cons (pv 2) (pk_cons (pv 1) pk_nil))) (pv 3) (nomark _))))) (pss_one (ps_ret pe_bl)) pss_nil)
  (pss_cons (ps_set (i := 10) sc_law_right.nd rfl (.inl rfl) (pe_call G_carried_row (hr.mono (by decide)) (by rfl) T.m_carried_row T.F_carried_row.kp T.b_carried_row .nil pass0 (pa_cons (pv 1) (pa_cons (pv 2) (pa_cons (pv 6) (pa_cons (pv 7) pa_nil))))))
  (pss_cons (ps_if (PW.pt (pw_or (pt_cmpR (op_neA hr.units) (pv 10) (pv 9) (nomark _)) (pw_or1 (pt_cmpR (op_neA hr.units) (pe_callB (call_repA (by exact hg) (un66 hr)) (by rfl) T.z_repr (by decide +kernel) (pa_cons (pe_call G_symbol_at (hr.mono (by decide)) (by rfl) T.m_symbol_at T.F_symbol_at.kp T.b_symbol_at .nil pass0 (pa_cons (pv 1) (pa_cons (pv 2) (pa_cons (pv 6) pa_nil)))) pa_nil)) (pe_callB (call_repA (by exact hg) (un66 hr)) (by rfl) T.z_repr (by decide +kernel) (pa_cons (pe_call G_law_symbol (hr.mono (by decide)) (by rfl) T.m_law_symbol T.F_law_symbol.kp T.b_law_symbol .nil pass0 (pa_cons (pv 4) (pa_cons (pv 6) pa_nil))) pa_nil)) (nomark _))))) (pss_one (ps_ret pe_bl)) pss_nil)
  (pss_cons (ps_expr (pe_bm PySem.F.plainAttrs_list PySem.F.slot_list_append PySem.F.type_list_append mt_append (pv 10) (pa_cons pe_non pa_nil)))
  (pss_cons (ps_set (i := 11) sc_law_right.nd rfl (.inl rfl) (pe_call G_law_due (hr.mono (by decide)) (by rfl) T.m_law_due T.F_law_due.kp T.b_law_due .nil pass0 (pa_cons (pv 8) (pa_cons (pv 9) (pa_cons (pe_call G_law_shift (hr.mono (by decide)) (by rfl) T.m_law_shift T.F_law_shift.kp T.b_law_shift .nil pass0 (pa_cons (pv 2) pa_nil)) (pa_cons (pv 3) pa_nil))))))
  (pss_cons (ps_if (PW.pt (pw_or (pt_cmpR op_isN (pv 11) pe_non (nomark _)) (pw_or1 (pt_cmpR (op_neA hr.units) (pe_kcall G_decided_multiple (hr.mono (by decide)) (by rfl) T.m_decided_multiple T.F_decided_multiple.kp T.kb_decided_multiple_1 pass0 (pk_cons (pv 6) (pk_cons (pv 2) (pk_cons (pv 1) pk_nil)))) (pv 11) (nomark _))))) (pss_one (ps_ret pe_bl)) pss_nil)
  (pss_cons (ps_set (i := 12) sc_law_right.nd rfl (.inl rfl) (pe_ix ix_seq (pv 9) (pe_call G_law_shift (hr.mono (by decide)) (by rfl) T.m_law_shift T.F_law_shift.kp T.b_law_shift .nil pass0 (pa_cons (pv 2) pa_nil)) (fun _ _ => rfl)))
  (pss_cons (ps_set (i := 10) sc_law_right.nd rfl (.inl rfl) (pe_lst (pa_cons (pe_call G_is_multiple (hr.mono (by decide)) (by rfl) T.m_is_multiple T.F_is_multiple.kp T.b_is_multiple .nil pass0 (pa_cons (pv 1) (pa_cons (pv 2) (pa_cons (pv 6) (pa_cons (pv 12) pa_nil))))) (pa_cons (pe_kcall G_is_multiple (hr.mono (by decide)) (by rfl) T.m_is_multiple T.F_is_multiple.kp T.kb_is_multiple_2 pass0 (pk_cons (pe_op op_addA (pv 12) pe_int) (pk_cons (pv 6) (pk_cons (pv 2) (pk_cons (pv 1) pk_nil))))) pa_nil))))
  (pss_one (ps_ret (pe_cmpR (op_eqA hr.units) (pe_callB (call_repA (by exact hg) (un66 hr)) (by rfl) T.z_repr (by decide +kernel) (pa_cons (pv 10) pa_nil)) (pe_callB (call_repA (by exact hg) (un66 hr)) (by rfl) T.z_repr (by decide +kernel) (pa_cons (pe_lst (pa_cons (pe_cmpR (op_eqA hr.units) (pe_ix ix_seq (pv 11) pe_int (fun _ _ => rfl)) pe_str (nomark _)) (pa_cons pe_bl pa_nil))) pa_nil)) (nomark _)))))))))))))))))))), SF.spP (b := B_law_right) (n := 13) (N := ["pot", "level", "product", "bound", "sign", "some", "prime", "many", "placed", "carried", "told", "due", "number", "one"]) (sf_seq (sf_asg (ef_callP ga_nil) (gf_tup (gsf_cons gf_name (gsf_cons gf_name (gsf_nil (vs := []))))))
  (sf_seq (sf_asg (ef_tup (af_cons (ef_call (ga_strict (ef_var 1) (ga_strict (ef_var 2) ga_nil))) (af_cons (ef_call (ga_strict (ef_var 1) (ga_strict (ef_var 2) ga_nil))) af_nil))) (gf_tup (gsf_cons gf_name (gsf_cons gf_name (gsf_nil (vs := []))))))
  (sf_seq (sf_asg (NF.ef (nf_lc (if_any (EF.yf (NF.ef (nf_lst (af_cons ef_int (af_cons ef_int (af_cons ef_int (af_cons ef_int (af_cons ef_int (af_cons ef_int (af_cons ef_int af_nil))))))))))) gf_name (tf_and (tf_test (EF.bf (ef_op of_ne (EF.bf (ef_op of_mod (bf_var 1) (bf_var 13))) (EF.bf ef_int)))) (tf_test (EF.bf (ef_op of_cmp (EF.bf (ef_op of_mulA (bf_var 13) (EF.bf (ef_op of_addA (bf_var 3) (EF.bf ef_int))))) (EF.bf ef_int))))) (ef_var 13))) gf_name)
  (sf_seq (sf_if (tf_test (EF.bf (ef_op of_eq (bf_var 5) (EF.bf (NF.ef (nf_lst af_nil)))))) (sf_ret (ef_op of_eq (EF.bf (ef_call (ga_strict (ef_var 1) (ga_strict (ef_var 2) ga_nil)))) (bf_var 3))) sf_next)
  (sf_seq (sf_asg (ef_callP (ga_strict (ef_var 5) ga_nil)) gf_name)
  (sf_seq (sf_asg (ef_op of_addA (bf_var 3) (EF.bf ef_int)) gf_name)
  (sf_seq (sf_asg (NF.ef (nf_call (ga_strict (ef_var 2) (ga_strict (ef_op of_mulA (bf_var 6) (bf_var 7)) ga_nil)))) gf_name)
  (sf_seq (sf_asg (NF.ef (nf_call (ga_strict (ef_var 2) (ga_strict (ef_var 4) (ga_strict (ef_var 6) (ga_strict (ef_var 8) (ga_strict (ef_var 7) ga_nil))))))) gf_name)
  (sf_seq (sf_if (tf_or (tf_test (EF.bf (ef_op of_ne (EF.bf (NF.ef (nf_call (ga_strict (ef_var 1) (ga_strict (ef_var 2) (ga_strict (ef_var 7) ga_nil)))))) (EF.bf (ef_sl sf_any (bf_var 8) pf_none (pf_some (bf_var 7))))))) (tf_test (EF.bf (ef_op of_ne (EF.bf (ef_callK (g := (fun us ws => match us, ws with | [], [ws0, ws1] => [ws1, ws0] | _, _ => [])) ga_nil (ga_strict (ef_var 2) (ga_strict (ef_var 1) ga_nil)) (by intro _ _ _ vs ws ds es h1 h2; obtain ⟨rfl, rfl⟩ := argA0 h1; obtain ⟨w0, w1, e0, e1, rfl, rfl, b0, b1⟩ := argA2 h2; exact ⟨b1, b0, trivial⟩))) (bf_var 3))))) (sf_ret ef_bool) sf_next)
  (sf_seq (sf_own (nf_call (ga_strict (ef_var 1) (ga_strict (ef_var 2) (ga_strict (ef_var 6) (ga_strict (ef_var 7) ga_nil))))))
  (sf_seq (sf_if (tf_or (tf_test (EF.bf (ef_op of_ne (bf_var 10) (bf_var 9)))) (tf_test (EF.bf (ef_op of_ne (EF.bf (ef_cb cf_repr (ab_cons (EF.bf (ef_call (ga_strict (ef_var 1) (ga_strict (ef_var 2) (ga_strict (ef_var 6) ga_nil))))) ab_nil))) (EF.bf (ef_cb cf_repr (ab_cons (EF.bf (ef_call (ga_strict (ef_var 4) (ga_strict (ef_var 6) ga_nil)))) ab_nil))))))) (sf_ret ef_bool) sf_next)
  (sf_seq (sf_app ef_non)
  (sf_seq (sf_asg (ef_call (ga_strict (ef_var 8) (ga_strict (ef_var 9) (ga_strict (ef_call (ga_strict (ef_var 2) ga_nil)) (ga_strict (ef_var 3) ga_nil))))) gf_name)
  (sf_seq (sf_if (tf_or (tf_test (EF.bf (ef_op of_isN (bf_var 11) (EF.bf ef_non)))) (tf_test (EF.bf (ef_op of_ne (EF.bf (ef_callK (g := (fun us ws => match us, ws with | [], [ws0, ws1, ws2] => [ws2, ws1, ws0] | _, _ => [])) ga_nil (ga_strict (ef_var 6) (ga_strict (ef_var 2) (ga_strict (ef_var 1) ga_nil))) (by intro _ _ _ vs ws ds es h1 h2; obtain ⟨rfl, rfl⟩ := argA0 h1; obtain ⟨w0, w1, w2, e0, e1, e2, rfl, rfl, b0, b1, b2⟩ := argA3 h2; exact ⟨b2, b1, b0, trivial⟩))) (bf_var 11))))) (sf_ret ef_bool) sf_next)
  (sf_seq (sf_asg (ef_op of_ix (bf_var 9) (EF.bf (ef_call (ga_strict (ef_var 2) ga_nil)))) gf_name)
  (sf_seq (sf_own (nf_lst (af_cons (ef_call (ga_strict (ef_var 1) (ga_strict (ef_var 2) (ga_strict (ef_var 6) (ga_strict (ef_var 12) ga_nil))))) (af_cons (ef_callK (g := (fun us ws => match us, ws with | [], [ws0, ws1, ws2, ws3] => [ws3, ws2, ws1, ws0] | _, _ => [])) ga_nil (ga_strict (ef_op of_addA (bf_var 12) (EF.bf ef_int)) (ga_strict (ef_var 6) (ga_strict (ef_var 2) (ga_strict (ef_var 1) ga_nil)))) (by intro _ _ _ vs ws ds es h1 h2; obtain ⟨rfl, rfl⟩ := argA0 h1; obtain ⟨w0, w1, w2, w3, e0, e1, e2, e3, rfl, rfl, b0, b1, b2, b3⟩ := argA4 h2; exact ⟨b3, b2, b1, b0, trivial⟩)) af_nil))))
  (sf_ret (ef_op of_eq (EF.bf (ef_cb cf_repr (ab_cons (bf_var 10) ab_nil))) (EF.bf (ef_cb cf_repr (ab_cons (EF.bf (NF.ef (nf_lst (af_cons (ef_op of_eq (EF.bf (ef_op of_ix (bf_var 11) (EF.bf ef_int))) (EF.bf ef_str)) (af_cons ef_bool af_nil))))) ab_nil))))))))))))))))))))) rfl h (fun z => nomatch z)⟩

end
end K81

noncomputable section
namespace K81
open PySem PySem.Spec PyProof.Rows L2 EP FL
abbrev Ps := List (Int × Int)
def Pd (ps : Ps) : D := .tuple [.str "product", .tuple (rowsP ps)]
structure Gp (ps : Ps) : Prop where
  len : ps.length ≤ 4
  ok : ∀ q ∈ ps, 1 ≤ q.1 ∧ q.1 ≤ 23 ∧ q.2 ≠ 0 ∧ -60 ≤ q.2 ∧ q.2 ≤ 60
  ris : (ps.map Prod.fst).Pairwise (· < ·)
theorem is_integer_i (i : Int) : F_is_integer [.int i] = some (.bool true) := rfl
theorem is_within_i (i lo hi : Int) (h : lo ≤ i ∧ i ≤ hi) : F_is_within [.int i, .int lo, .int hi] = some (.bool true) := by
  simp [F_is_within, B_is_within, is_integer_i, h.1, h.2]
theorem is_pair_q (a b : D) : F_is_pair [.tuple [a, b]] = some (.bool true) := rfl
theorem is_step_power_q (q : Int × Int) (h : 1 ≤ q.1 ∧ q.1 ≤ 60 ∧ q.2 ≠ 0 ∧ -60 ≤ q.2 ∧ q.2 ≤ 60) : F_is_step_power [.tuple [.int q.1, .int q.2]] = some (.bool true) := by
  have w1 := is_within_i q.1 1 60 ⟨h.1, h.2.1⟩
  have w2 := is_within_i q.2 (-60) 60 ⟨h.2.2.2.1, h.2.2.2.2⟩
  simp [F_is_step_power, B_is_step_power, is_pair_q, w1, w2, eqF, h.2.2.1]
theorem rising_lc : ∀ (ns : List Int) (ρw : En) (π : Pot) (X : D), ns.Pairwise (· < ·) →
    lcGo (gT 2 (gsC (gN 1) (gsC (gN 2) gsN))) xYes (xOp (cmpF fun i j => decide (i < j)) (xBo 1) (xBo 2)) [.dat X, .un, .un] (zipD (ns.map PyData.int) ((ns.map PyData.int).drop 1)) π = some ((zipD (ns.map PyData.int) ((ns.map PyData.int).drop 1)).map fun _ => .bool true, π)
  | [], ρw, π, X, _ => rfl
  | [a], ρw, π, X, _ => rfl
  | a :: b :: r, ρw, π, X, h => by
    have hab : a < b := (List.pairwise_cons.mp h).1 b List.mem_cons_self
    have ih := rising_lc (b :: r) ρw π X (List.pairwise_cons.mp h).2
    show lcGo _ _ _ _ (.tuple [.int a, .int b] :: zipD ((b :: r).map PyData.int) (((b :: r).map PyData.int).drop 1)) π = _
    unfold lcGo
    have s1 : gT 2 (gsC (gN 1) (gsC (gN 2) gsN)) (.tuple [.int a, .int b]) [.dat X, .un, .un] = some [.dat X, .dat (.int a), .dat (.int b)] := by simp
    have s2 : xOp (cmpF fun i j => decide (i < j)) (xBo 1) (xBo 2) [.dat X, .dat (.int a), .dat (.int b)] π = some (.bool true, π) := by simp [hab]
    rw [s1]
    simp only [Option.bind_some, xYes, if_true]
    rw [s2]
    simp only [Option.bind_some]
    rw [ih]
    rfl
theorem trues (ds : List D) : boolsO (ds.map fun _ => .bool true) = some (ds.map fun _ => true) := boolsO_map (fun _ => true) ds
theorem is_rising_ok (ns : List Int) (hl : ns.length ≤ 100) (h : ns.Pairwise (· < ·)) : F_is_rising [.list (ns.map PyData.int)] = some (.bool true) := by
  have e := rising_lc ns [] [] (.list (ns.map PyData.int)) h
  have zl : (zipD (ns.map PyData.int) ((ns.map PyData.int).drop 1)).length ≤ 100000 := by
    rw [zipD_length, List.length_map, List.length_drop, List.length_map]; omega
  have cd : FL.cutD (ns.map PyData.int) (some 1) none = (ns.map PyData.int).drop 1 := by
    cases ns with
    | nil => simp [FL.cutD]
    | cons a r => exact cut_drop _ 1 (by simp)
  rw [List.drop_one] at e zl cd
  simp [F_is_rising, B_is_rising, cd, e, zl, trues, -lcGo, -FL.cutD, -cmpF]
theorem is_product_ok {ps : Ps} (g : Gp ps) : F_is_product [Pd ps] = some (.bool true) := by
  have l3 := g.len
  have t1 : F_is_tagged [Pd ps, .str "product", .int 2] = some (.bool true) := by simp [Pd, F_is_tagged, B_is_tagged, eqF]
  have kx : ixF (Pd ps) (.int 1) = some (.tuple (rowsP ps)) := by simp [Pd]
  have a1 : ∀ ρ1 ρ2 : FL.Slot, lcGo (gN 2) xYes (xCb F_is_step_power (aCons (xVar 2) aNil)) [ρ1, ρ2, .un] (rowsP ps) [] = some (ps.map fun _ => .bool true, []) := fun ρ1 ρ2 =>
    lc_rowsP (fun _ => .bool true) ps fun q hq => by
      have := g.ok q hq
      have e := is_step_power_q q ⟨by omega, by omega, this.2.2.1, by omega, by omega⟩
      exact ⟨_, rfl, by simp [e]⟩
  have a2 : ∀ ρ1 ρ2 : FL.Slot, lcGo (gN 2) xYes (xOp ixF (xBo 2) (xC (.int 0))) [ρ1, ρ2, .un] (rowsP ps) [] = some (ps.map fun q => .int q.1, []) := fun ρ1 ρ2 =>
    lc_rowsP (fun q => .int q.1) ps fun q hq => ⟨_, rfl, by simp⟩
  have r := is_rising_ok (ps.map Prod.fst) (by rw [List.length_map]; omega) g.ris
  rw [List.map_map] at r
  have r : F_is_rising [.list (ps.map fun q => .int q.1)] = some (.bool true) := r
  have b1 := boolsO_bools (fun _ => true) ps
  have ln : (rowsP ps).length ≤ 100000 := by rw [rowsP_length]; omega
  have l12 : ¬ ((12 : Int) < (rowsP ps).length) := by rw [rowsP_length]; omega
  have l4 : ps.length ≤ 100000 := by omega
  simp [F_is_product, B_is_product, t1, kx, a1, a2, r, b1, ln, l12, l4, -lcGo, -ixF, -fdivF, -modF]
theorem check_product_ok {ps : Ps} (g : Gp ps) : F_check_product [Pd ps] = some .none := by
  simp [F_check_product, B_check_product, is_product_ok g]
theorem check_level_ok {l : Int} (h : 1 ≤ l ∧ l ≤ 120) : F_check_level [.int l] = some .none := by
  have w1 := is_within_i l 1 120 h
  simp [F_check_level, B_check_level, w1]
theorem power_sum_eq {ps : Ps} (g : Gp ps) : F_power_sum [Pd ps] = some (.int (ps.map Prod.snd).sum) := by
  have l3 := g.len
  have kx : ixF (Pd ps) (.int 1) = some (.tuple (rowsP ps)) := by simp [Pd]
  have a1 : lcGo (gT 2 (gsC (gN 1) (gsC (gN 2) gsN))) xYes (xVar 2) [.dat (Pd ps), .un, .un] (rowsP ps) [] = some (ps.map fun q => .int q.2, []) :=
    lc_rowsP (fun q => .int q.2) ps fun q hq => ⟨_, rfl, by simp⟩
  have ln : (rowsP ps).length ≤ 100000 := by rw [rowsP_length]; omega
  have i1 := intsO_ints (fun q => q.2) ps
  simp [F_power_sum, B_power_sum, kx, a1, ln, i1, -lcGo, -ixF, -fdivF, -modF]
theorem shift_sum_eq {ps : Ps} (g : Gp ps) : F_shift_sum [Pd ps] = some (.int (ps.map fun q => q.1 * q.2).sum) := by
  have l3 := g.len
  have kx : ixF (Pd ps) (.int 1) = some (.tuple (rowsP ps)) := by simp [Pd]
  have a1 : lcGo (gT 2 (gsC (gN 1) (gsC (gN 2) gsN))) xYes (xOp mulF (xBo 1) (xBo 2)) [.dat (Pd ps), .un, .un] (rowsP ps) [] = some (ps.map fun q => .int (q.1 * q.2), []) :=
    lc_rowsP (fun q => .int (q.1 * q.2)) ps fun q hq => by
      have := g.ok q hq
      have m1 : mulOk q.1 q.2 = true := mulOk_of (a := 12) (b := 12) (by omega) (by omega)
      exact ⟨_, rfl, by simp [m1, mulF]⟩
  have ln : (rowsP ps).length ≤ 100000 := by rw [rowsP_length]; omega
  have i1 := intsO_ints (fun q => q.1 * q.2) ps
  simp [F_shift_sum, B_shift_sum, kx, a1, ln, i1, -lcGo, -ixF, -fdivF, -modF]
theorem turned_sum_eq {ps : Ps} (g : Gp ps) {l : Int} (l0 : 0 ≤ l) (l1 : l ≤ 2000) : F_turned_sum [Pd ps, .int l] = some (.int (ps.map fun q => l / q.1 * q.2).sum) := by
  have l3 := g.len
  have kx : ixF (Pd ps) (.int 1) = some (.tuple (rowsP ps)) := by simp [Pd]
  have a1 : lcGo (gT 2 (gsC (gN 2) (gsC (gN 3) gsN))) xYes (xOp mulF (xOp fdivF (xBo 1) (xBo 2)) (xBo 3)) [.dat (Pd ps), .dat (.int l), .un, .un] (rowsP ps) [] = some (ps.map fun q => .int (l / q.1 * q.2), []) :=
    lc_rowsP (fun q => .int (l / q.1 * q.2)) ps fun q hq => by
      have := g.ok q hq
      have h0 : 0 ≤ l / q.1 := Int.ediv_nonneg l0 (by omega)
      have h1 : l / q.1 ≤ l := Int.ediv_le_self _ l0
      have m1 : mulOk (l / q.1) q.2 = true := mulOk_of (a := 20) (b := 12) (by omega) (by omega)
      have d1 : divOk l q.1 = true := divOk_of (by omega) (by omega)
      have q0 : 0 < q.1 := by omega
      exact ⟨_, rfl, by simp [m1, mulF, d1, q0]⟩
  have ln : (rowsP ps).length ≤ 100000 := by rw [rowsP_length]; omega
  have i1 := intsO_ints (fun q => l / q.1 * q.2) ps
  simp [F_turned_sum, B_turned_sum, kx, a1, ln, i1, -lcGo, -ixF, -fdivF, -modF]
theorem has_steps_eq {ps : Ps} (g : Gp ps) {l : Int} (l0 : 0 ≤ l) (l1 : l ≤ 2000) : F_has_steps_of [Pd ps, .int l] = some (.bool ((ps.map fun q => decide (l % q.1 = 0)).all id)) := by
  have l3 := g.len
  have kx : ixF (Pd ps) (.int 1) = some (.tuple (rowsP ps)) := by simp [Pd]
  have a1 : lcGo (gT 2 (gsC (gN 2) (gsC (gN 3) gsN))) xYes (xOp (eqF false) (xOp modF (xBo 1) (xBo 2)) (xC (.int 0))) [.dat (Pd ps), .dat (.int l), .un, .un] (rowsP ps) [] = some (ps.map fun q => .bool (decide (l % q.1 = 0)), []) :=
    lc_rowsP (fun q => .bool (decide (l % q.1 = 0))) ps fun q hq => by
      have := g.ok q hq
      have d1 : divOk l q.1 = true := divOk_of (by omega) (by omega)
      have q0 : 0 < q.1 := by omega
      exact ⟨_, rfl, by simp [d1, q0, eqF]⟩
  have ln : (rowsP ps).length ≤ 100000 := by rw [rowsP_length]; omega
  have i1 := boolsO_bools (fun q => decide (l % q.1 = 0)) ps
  simp [F_has_steps_of, B_has_steps_of, kx, a1, ln, i1, -lcGo, -ixF, -fdivF, -modF]

def Psum (ps : Ps) : Int := (ps.map Prod.snd).sum
def Ssum (ps : Ps) : Int := (ps.map fun q => q.1 * q.2).sum
def Tsum (ps : Ps) (l : Int) : Int := (ps.map fun q => l / q.1 * q.2).sum
def Hst (ps : Ps) (l : Int) : Bool := (ps.map fun q => decide (l % q.1 = 0)).all id
theorem lacking_eq {ps : Ps} (g : Gp ps) {l : Int} (l0 : 0 ≤ l) (l1 : l ≤ 2000) (h : Hst ps l = true) (p : Psum ps % 2 = 0) (s : Ssum ps % 24 = 0) (t : Tsum ps l % 24 = 0) : F_lacking [Pd ps, .int l] = some (.list []) := by
  have e1 := power_sum_eq g
  have e2 := shift_sum_eq g
  have e3 := turned_sum_eq g l0 l1
  have e4 := has_steps_eq g l0 l1
  have h : ((ps.map fun q => decide (l % q.1 = 0)).all id) = true := h
  have e1 : F_power_sum [Pd ps] = some (.int (Psum ps)) := e1
  have e2 : F_shift_sum [Pd ps] = some (.int (Ssum ps)) := e2
  have e3 : F_turned_sum [Pd ps, .int l] = some (.int (Tsum ps l)) := e3
  rw [h] at e4
  have m1 := modF_of (i := Psum ps) (j := 2) (divOk_of (by decide) (by decide)) (by decide)
  have m2 := modF_of (i := Ssum ps) (j := 24) (divOk_of (by decide) (by decide)) (by decide)
  have m3 := modF_of (i := Tsum ps l) (j := 24) (divOk_of (by decide) (by decide)) (by decide)
  rw [p] at m1
  rw [s] at m2
  rw [t] at m3
  have eq := eqF_int true 0 0
  generalize Pd ps = P at *
  generalize Psum ps = A at *
  generalize Ssum ps = B at *
  generalize Tsum ps l = C at *
  simp [F_lacking, B_lacking, e1, e2, e3, e4, m1, m2, m3, eq, -modF]
theorem fits_eq {ps : Ps} {l : Int} (h : F_lacking [Pd ps, .int l] = some (.list [])) : F_check_fits [Pd ps, .int l] = some .none := by
  generalize Pd ps = P at *
  simp [F_check_fits, B_check_fits, h]
/-! ### prime factors, by trial -/
def inn : Nat → Nat → Nat → Nat → Nat × Nat
  | 0, n, _, o => (n, o)
  | f + 1, n, p, o => if n % p = 0 then inn f (n / p) p (o + 1) else (n, o)
theorem inn_loop {p : Nat} (p2 : 2 ≤ p) (pb : p < 1000) (R : List D) (π : Pot) : ∀ (f F n o : Nat), 0 < n → n < f → n < F → n < 100000 → whGo B_factored_c1 B_factored_w1 F [.dat (.int n), .own R, .dat (.int p), .dat (.int o)] π = some ([.dat (.int (inn f n p o).1), .own R, .dat (.int p), .dat (.int (inn f n p o).2)], π, .nx)
  | 0, F, n, o, _, h, _, _ => by omega
  | f + 1, 0, n, o, _, _, h, _ => by omega
  | f + 1, F + 1, n, o, n0, h1, h2, nb => by
    have m := modN (n := n) (x := p) (by omega) (by omega)
    have e := eqN (n % p) 0
    simp only [Int.natCast_zero] at e
    have hc : B_factored_c1 [.dat (.int n), .own R, .dat (.int p), .dat (.int o)] π = some (n % p == 0, π) := by
      generalize ((n % p : Nat) : Int) = Z at *
      simp [B_factored_c1, m, e, -modF]
    by_cases c : n % p = 0
    · have q := divN (n := n) (x := p) (by omega) (by omega)
      have lt : n / p < n := Nat.div_lt_self n0 (by omega)
      have d0 : 0 < n / p := Nat.div_pos (Nat.le_of_dvd n0 (Nat.dvd_of_mod_eq_zero c)) (by omega)
      rw [show (n % p == 0) = true by simp [c]] at hc
      have hw : B_factored_w1 [.dat (.int n), .own R, .dat (.int p), .dat (.int o)] π = some ([.dat (.int (n / p : Nat)), .own R, .dat (.int p), .dat (.int ((o + 1 : Nat) : Int))], π, .nx) := by
        generalize ((n / p : Nat) : Int) = Z at *
        simp [B_factored_w1, q, -fdivF]
      rw [wh_yes hc hw]
      have ei : inn (f + 1) n p o = inn f (n / p) p (o + 1) := by show (if n % p = 0 then _ else _) = _; rw [if_pos c]
      rw [ei]
      exact inn_loop p2 pb R π f F (n / p) (o + 1) d0 (by omega) (by omega) (by omega)
    · rw [show (n % p == 0) = false by simp [c]] at hc
      rw [wh_no hc]
      have ei : inn (f + 1) n p o = (n, o) := by show (if n % p = 0 then _ else _) = _; rw [if_neg c]
      rw [ei]
theorem inn_le : ∀ (f n p o : Nat), 0 < n → 0 < p → (inn f n p o).1 ≤ n ∧ 0 < (inn f n p o).1
  | 0, n, p, o, h, _ => ⟨Nat.le_refl _, h⟩
  | f + 1, n, p, o, h, hp => by
    unfold inn
    split
    · rename_i c
      have d0 : 0 < n / p := Nat.div_pos (Nat.le_of_dvd h (Nat.dvd_of_mod_eq_zero c)) hp
      have := inn_le f (n / p) p (o + 1) d0 hp
      have := Nat.div_le_self n p
      omega
    · exact ⟨Nat.le_refl _, h⟩
def out : Nat → Nat → Nat → Ps → Nat × Ps
  | 0, n, _, L => (n, L)
  | f + 1, n, p, L => if p * p ≤ n then out f (inn 300 n p 0).1 (p + 1) (if 0 < (inn 300 n p 0).2 then L ++ [((p : Int), ((inn 300 n p 0).2 : Int))] else L) else (n, L)
theorem out_loop (π : Pot) : ∀ (f F n p : Nat) (L : Ps) (c3 : FL.Slot), 0 < n → n < 300 → 2 ≤ p → p ≤ 18 → 20 < f + p → 400 < F + p → L.length ≤ p → c3.isOwn = false → ∃ (p' : Nat) (c3' : FL.Slot), (out f n p L).2.length ≤ 100 ∧ 0 < (out f n p L).1 ∧ (out f n p L).1 < 300 ∧ whGo B_factored_c2 B_factored_w2 F [.dat (.int n), .own (rowsP L), .dat (.int p), c3] π = some ([.dat (.int (out f n p L).1), .own (rowsP (out f n p L).2), .dat (.int p'), c3'], π, .nx)
  | f, 0, n, p, L, c3, n0, nb, p2, p18, h1, h2, hl, h3 => by omega
  | 0, F + 1, n, p, L, c3, n0, nb, p2, p18, h1, h2, hl, h3 => by omega
  | f + 1, F + 1, n, p, L, c3, n0, nb, p2, p18, h1, h2, hl, h3 => by
    have m := mulF_of (i := (p : Int)) (j := (p : Int)) (mulOk_of (a := 12) (b := 12) (by omega) (by omega))
    rw [show (p : Int) * (p : Int) = ((p * p : Nat) : Int) by push_cast; rfl] at m
    have hc : B_factored_c2 [.dat (.int n), .own (rowsP L), .dat (.int p), c3] π = some (decide (p * p ≤ n), π) := by
      have e : cmpF (fun i j => decide (i ≤ j)) (.int ((p * p : Nat) : Int)) (.int (n : Int)) = some (.bool (decide (p * p ≤ n))) := by
        have : decide (((p * p : Nat) : Int) ≤ (n : Int)) = decide (p * p ≤ n) := by rw [decide_eq_decide]; omega
        rw [← this]; simp
      generalize ((p * p : Nat) : Int) = Z at *
      simp [B_factored_c2, m, e, -cmpF]
    by_cases c : p * p ≤ n
    · rw [decide_eq_true c] at hc
      have p17 : p ≤ 17 := by
        by_cases h : p ≤ 17
        · exact h
        · have := Nat.mul_le_mul (show 18 ≤ p by omega) (show 18 ≤ p by omega); omega
      have il := inn_loop p2 (by omega) (rowsP L) π 300 10000000 n 0 n0 nb (by omega) (by omega)
      have ib := inn_le 300 n p 0 n0 (by omega)
      have eo : out (f + 1) n p L = out f (inn 300 n p 0).1 (p + 1) (if 0 < (inn 300 n p 0).2 then L ++ [((p : Int), ((inn 300 n p 0).2 : Int))] else L) := by show (if p * p ≤ n then _ else _) = _; rw [if_pos c]
      rw [eo]
      generalize (inn 300 n p 0).1 = n1 at *
      generalize (inn 300 n p 0).2 = o1 at *
      have lr : (rowsP L).length < 100000 := by rw [rowsP_length]; omega
      have ap : rowsP (L ++ [((p : Int), (o1 : Int))]) = rowsP L ++ [.tuple [.int p, .int o1]] := by unfold rowsP; rw [List.map_append]; rfl
      have hw : B_factored_w2 [.dat (.int n), .own (rowsP L), .dat (.int p), c3] π = some ([.dat (.int n1), .own (rowsP (if 0 < o1 then L ++ [((p : Int), (o1 : Int))] else L)), .dat (.int ((p + 1 : Nat) : Int)), .dat (.int o1)], π, .nx) := by
        have il : whGo B_factored_c1 B_factored_w1 10000000 [.dat (.int n), .own (rowsP L), .dat (.int p), .dat (.int 0)] π = _ := il
        by_cases o : 0 < o1
        · rw [if_pos o, ap]
          have o' : (0 : Int) < (o1 : Int) := by omega
          generalize rowsP L = R at *
          simp [B_factored_w2, h3, il, o, lr]
        · rw [if_neg o]
          have o' : ¬ (0 : Int) < (o1 : Int) := by omega
          generalize rowsP L = R at *
          simp [B_factored_w2, h3, il, o]
      have hLl : (if 0 < o1 then L ++ [((p : Int), (o1 : Int))] else L).length ≤ p + 1 := by
        by_cases o : 0 < o1
        · rw [if_pos o, List.length_append]; simp; omega
        · rw [if_neg o]; omega
      rw [wh_yes hc hw]
      exact out_loop π f F n1 (p + 1) _ (.dat (.int o1)) ib.2 (by omega) (by omega) (by omega) (by omega) (by omega) hLl rfl
    · rw [decide_eq_false c] at hc
      have eo : out (f + 1) n p L = (n, L) := by show (if p * p ≤ n then _ else _) = _; rw [if_neg c]
      rw [eo, wh_no hc]
      exact ⟨p, c3, by show L.length ≤ 100; omega, n0, nb, rfl⟩
def fac (n : Nat) : Ps := if 1 < (out 20 n 2 []).1 then (out 20 n 2 []).2 ++ [(((out 20 n 2 []).1 : Int), 1)] else (out 20 n 2 []).2
theorem factored_eq {n : Nat} (n0 : 0 < n) (nb : n < 300) : F_factored [.int n] = some (.list (rowsP (fac n))) := by
  obtain ⟨p', c3', l, a, b, e⟩ := out_loop [] 20 10000000 n 2 [] .un n0 nb (by decide) (by decide) (by decide) (by decide) (by decide) rfl
  have hf : fac n = if 1 < (out 20 n 2 []).1 then (out 20 n 2 []).2 ++ [(((out 20 n 2 []).1 : Int), 1)] else (out 20 n 2 []).2 := rfl
  rw [hf]
  have e : whGo B_factored_c2 B_factored_w2 10000000 [.dat (.int n), .own [], .dat (.int 2), .un] [] = _ := e
  generalize (out 20 n 2 []).1 = n1 at *
  generalize (out 20 n 2 []).2 = L at *
  have lr : (rowsP L).length < 100000 := by rw [rowsP_length]; omega
  by_cases c : 1 < n1
  · rw [if_pos c]
    have c' : (1 : Int) < (n1 : Int) := by omega
    have ap : rowsP (L ++ [((n1 : Int), (1 : Int))]) = rowsP L ++ [.tuple [.int n1, .int 1]] := by unfold rowsP; rw [List.map_append]; rfl
    rw [ap]
    generalize rowsP L = R at *
    simp [F_factored, B_factored, e, c', lr]
  · rw [if_neg c]
    have c' : ¬ (1 : Int) < (n1 : Int) := by omega
    generalize rowsP L = R at *
    simp [F_factored, B_factored, e, c']
end K81

noncomputable section
namespace K81
open PySem PySem.Spec PyProof.Rows L2 EP FL
theorem is_within_eq (i lo hi : Int) : F_is_within [.int i, .int lo, .int hi] = some (.bool (decide (lo ≤ i ∧ i ≤ hi))) := by
  have a : F_is_integer [.int i] = some (.bool true) := rfl
  by_cases h : lo ≤ i <;> simp [F_is_within, B_is_within, a, h]
/-! ### what hangs on the prime factors -/
def idxL : Ps → Int → Int
  | [], a => a
  | q :: L, a => idxL L (a / q.1 * (q.1 + 1))
def opL : Ps → Int → Int
  | [], a => a
  | q :: L, a => opL L (if q.2 % 2 = 1 then a * q.1 else a)
/-- a list of prime factors with small numbers -/
def okF (L : Ps) : Bool := L.all fun q => decide (1 ≤ q.1 ∧ q.1 < 1000 ∧ 0 ≤ q.2 ∧ q.2 < 1000)
theorem idx_loop (X : FL.Slot) (π : Pot) : ∀ (L : Ps) (a : Int) (B : Nat) (c2 c3 : FL.Slot), okF L = true → a.natAbs < 2 ^ B → 0 < B → B + 10 * L.length ≤ 2000 → c2.isOwn = false → c3.isOwn = false → ∃ c2' c3' : FL.Slot, forGo (gT 2 (gsC (gN 2) (gsC (gN 3) gsN))) B_index_of_b1 (rowsP L) [X, .dat (.int a), c2, c3] π = some ([X, .dat (.int (idxL L a)), c2', c3'], π, .nx)
  | [], a, B, c2, c3, _, _, _, _, _, _ => ⟨c2, c3, rfl⟩
  | q :: L, a, B, c2, c3, ok, hb, B0, hB, h2, h3 => by
    have o1 : decide (1 ≤ q.1 ∧ q.1 < 1000 ∧ 0 ≤ q.2 ∧ q.2 < 1000) = true ∧ okF L = true := by
      have : (decide (1 ≤ q.1 ∧ q.1 < 1000 ∧ 0 ≤ q.2 ∧ q.2 < 1000) && okF L) = true := ok
      rwa [Bool.and_eq_true] at this
    obtain ⟨o1, o2⟩ := o1
    have o1 := of_decide_eq_true o1
    rw [List.length_cons] at hB
    have qd := fdivF_of (i := a) (j := q.1) (divOk_of (by omega) (by omega)) (by omega)
    have le : (a / q.1).natAbs ≤ a.natAbs := Int.natAbs_ediv_le_natAbs _ _
    have qb : (q.1 + 1).natAbs < 2 ^ 10 := by omega
    have m := mulF_of (i := a / q.1) (j := q.1 + 1) (mulOk_of (a := B) (b := 10) (by omega) qb B0 (by decide) (by omega))
    have nb : (a / q.1 * (q.1 + 1)).natAbs < 2 ^ (B + 10) := by
      rw [Int.natAbs_mul, Nat.pow_add]
      exact Nat.mul_lt_mul'' (by omega) qb
    obtain ⟨c2', c3', ih⟩ := idx_loop X π L (a / q.1 * (q.1 + 1)) (B + 10) (.dat (.int q.1)) (.dat (.int q.2)) o2 nb (by omega) (by omega) rfl rfl
    refine ⟨c2', c3', ?_⟩
    have e : idxL (q :: L) a = idxL L (a / q.1 * (q.1 + 1)) := rfl
    rw [e]
    show forGo _ _ (.tuple [.int q.1, .int q.2] :: rowsP L) _ π = _
    unfold forGo
    have b : B_index_of_b1 [X, .dat (.int a), .dat (.int q.1), .dat (.int q.2)] π = some ([X, .dat (.int (a / q.1 * (q.1 + 1))), .dat (.int q.1), .dat (.int q.2)], π, .nx) := by
      generalize a / q.1 = A at *
      simp [B_index_of_b1, qd, m, -fdivF]
    simp [h2, h3, b, ih, -forGo]
theorem index_of_eq {n : Nat} (n0 : 0 < n) (nb : n ≤ 120) (ok : okF (fac n) = true) (l : (fac n).length ≤ 100) : F_index_of [.int n] = some (.int (idxL (fac n) n)) := by
  have f := factored_eq n0 (show n < 300 by omega)
  have cl := check_level_ok (l := (n : Int)) ⟨by omega, by omega⟩
  obtain ⟨c2, c3, e⟩ := idx_loop (.dat (.int n)) [] (fac n) n 10 .un .un ok (by omega) (by decide) (by omega) rfl rfl
  have ln : (rowsP (fac n)).length ≤ 100000 := by rw [rowsP_length]; omega
  generalize rowsP (fac n) = R at *
  simp [F_index_of, B_index_of, cl, f, ln, e, -forGo]
theorem op_loop (X : FL.Slot) (π : Pot) : ∀ (L : Ps) (a : Int) (B : Nat) (c2 c3 : FL.Slot), okF L = true → a.natAbs < 2 ^ B → 0 < B → B + 10 * L.length ≤ 2000 → c2.isOwn = false → c3.isOwn = false → ∃ c2' c3' : FL.Slot, forGo (gT 2 (gsC (gN 2) (gsC (gN 3) gsN))) B_odd_primes_b1 (rowsP L) [X, .dat (.int a), c2, c3] π = some ([X, .dat (.int (opL L a)), c2', c3'], π, .nx)
  | [], a, B, c2, c3, _, _, _, _, _, _ => ⟨c2, c3, rfl⟩
  | q :: L, a, B, c2, c3, ok, hb, B0, hB, h2, h3 => by
    have o1 : decide (1 ≤ q.1 ∧ q.1 < 1000 ∧ 0 ≤ q.2 ∧ q.2 < 1000) = true ∧ okF L = true := by
      have : (decide (1 ≤ q.1 ∧ q.1 < 1000 ∧ 0 ≤ q.2 ∧ q.2 < 1000) && okF L) = true := ok
      rwa [Bool.and_eq_true] at this
    obtain ⟨o1, o2⟩ := o1
    have o1 := of_decide_eq_true o1
    rw [List.length_cons] at hB
    have md := modF_of (i := q.2) (j := 2) (divOk_of (by decide) (by decide)) (by decide)
    have m := mulOk_of (i := a) (j := q.1) (a := B) (b := 10) (by omega) (by omega) B0 (by decide) (by omega)
    have nb : (if q.2 % 2 = 1 then a * q.1 else a).natAbs < 2 ^ (B + 10) := by
      split
      · rw [Int.natAbs_mul, Nat.pow_add]
        exact Nat.mul_lt_mul'' hb (by omega)
      · exact Nat.lt_of_lt_of_le hb (Nat.pow_le_pow_right (by decide) (by omega))
    obtain ⟨c2', c3', ih⟩ := op_loop X π L (if q.2 % 2 = 1 then a * q.1 else a) (B + 10) (.dat (.int q.1)) (.dat (.int q.2)) o2 nb (by omega) (by omega) rfl rfl
    refine ⟨c2', c3', ?_⟩
    have e : opL (q :: L) a = opL L (if q.2 % 2 = 1 then a * q.1 else a) := rfl
    rw [e]
    show forGo _ _ (.tuple [.int q.1, .int q.2] :: rowsP L) _ π = _
    unfold forGo
    have b : B_odd_primes_b1 [X, .dat (.int a), .dat (.int q.1), .dat (.int q.2)] π = some ([X, .dat (.int (if q.2 % 2 = 1 then a * q.1 else a)), .dat (.int q.1), .dat (.int q.2)], π, .nx) := by
      by_cases c : q.2 % 2 = 1
      · rw [if_pos c]
        rw [c] at md
        simp [B_odd_primes_b1, md, eqF_int, m, -modF]
      · rw [if_neg c]
        generalize q.2 % 2 = Z at *
        simp [B_odd_primes_b1, md, eqF_int, c, -modF]
    simp [h2, h3, b, ih, -forGo]
theorem odd_primes_eq {n : Nat} (n0 : 0 < n) (nb : n < 300) (ok : okF (fac n) = true) (l : (fac n).length ≤ 100) : F_odd_primes [.int n] = some (.int (opL (fac n) 1)) := by
  have f := factored_eq n0 nb
  obtain ⟨c2, c3, e⟩ := op_loop (.dat (.int n)) [] (fac n) 1 10 .un .un ok (by decide) (by decide) (by omega) rfl rfl
  have ln : (rowsP (fac n)).length ≤ 100000 := by rw [rowsP_length]; omega
  generalize rowsP (fac n) = R at *
  simp [F_odd_primes, B_odd_primes, f, ln, e, -forGo]
theorem is_prime_eq {p : Nat} (p2 : 2 ≤ p) (pb : p < 300) (h : fac p = [((p : Int), 1)]) : F_is_prime [.int p] = some (.bool true) := by
  have f := factored_eq (show 0 < p by omega) pb
  rw [h] at f
  have w := is_within_eq (p : Int) 2 3000
  rw [decide_eq_true (by omega)] at w
  have f : F_factored [.int p] = some (.list [.tuple [.int p, .int 1]]) := f
  have e := eqF_self false (d := .list [.tuple [.int (p : Int), .int 1]]) rfl
  simp [F_is_prime, B_is_prime, w, f, e]
theorem check_prime_eq {l p : Nat} (p3 : 3 ≤ p) (pb : p ≤ 97) (h : fac p = [((p : Int), 1)]) (d : l % p ≠ 0) : F_check_prime [.int l, .int p] = some .none := by
  have ip := is_prime_eq (by omega) (show p < 300 by omega) h
  have w := is_within_eq (p : Int) 3 97
  rw [decide_eq_true (by omega)] at w
  have m := modN (n := l) (x := p) (by omega) (by omega)
  have e := eqF_int true ((l % p : Nat) : Int) 0
  have ne : decide (((l % p : Nat) : Int) = 0) = false := decide_eq_false (by omega)
  rw [ne] at e
  have sp : F_is_serving_prime [.int l, .int p] = some (.bool true) := by
    generalize ((l % p : Nat) : Int) = Z at *
    simp [F_is_serving_prime, B_is_serving_prime, w, ip, m, e, -modF]
  simp [F_check_prime, B_check_prime, sp]
def sym (x : Int) (p : Nat) : Int := if x % p = 0 then 0 else if ((List.range (p / 2)).any fun i => decide ((((i + 1) * (i + 1) % p : Nat) : Int) = x % p)) = true then 1 else -1
theorem symbol_eq {x : Int} {p : Nat} (p3 : 3 ≤ p) (pb : p ≤ 97) (h : fac p = [((p : Int), 1)]) : F_symbol [.int x, .int p] = some (.int (sym x p)) := by
  have ip := is_prime_eq (by omega) (show p < 300 by omega) h
  have ci : F_check_integer [.int x] = some .none := by
    have a : F_is_integer [.int x] = some (.bool true) := rfl
    simp [F_check_integer, B_check_integer, a]
  have m := modF_of (i := x) (j := (p : Int)) (divOk_of (by omega) (by omega)) (by omega)
  have e2 := eqF_int false (p : Int) 2
  have n2 : decide ((p : Int) = 2) = false := decide_eq_false (by omega)
  rw [n2] at e2
  have e0 := eqF_int false (x % p) 0
  have q := divN (n := p) (x := 2) (by decide) (by decide)
  have q : fdivF (.int (p : Int)) (.int 2) = some (.int ((p / 2 : Nat) : Int)) := q
  have L : lcGo (gN 3) xYes (xOp (eqF false) (xOp modF (xOp mulF (xBo 3) (xBo 3)) (xBo 1)) (xBo 2)) [.dat (.int x), .dat (.int p), .dat (.int (x % p)), .un] (rg 1 (p / 2)) [] = some (((List.range (p / 2)).map fun i => .bool (decide ((((i + 1) * (i + 1) % p : Nat) : Int) = x % p))), []) := by
    have gen : ∀ L : List Nat, (∀ i ∈ L, i < p / 2) → lcGo (gN 3) xYes (xOp (eqF false) (xOp modF (xOp mulF (xBo 3) (xBo 3)) (xBo 1)) (xBo 2)) [.dat (.int x), .dat (.int p), .dat (.int (x % p)), .un] (L.map fun (i : Nat) => .int (1 + (i : Int))) [] = some ((L.map fun (i : Nat) => .bool (decide ((((i + 1) * (i + 1) % p : Nat) : Int) = x % p))), []) := by
      intro L
      induction L with
      | nil => intro _; rfl
      | cons i L ih =>
        intro hL
        have ih := ih fun y hy => hL y (List.mem_cons_of_mem _ hy)
        have hi := hL i List.mem_cons_self
        have e1 : 1 + (i : Int) = ((i + 1 : Nat) : Int) := by omega
        have mm := mulF_of (i := ((i + 1 : Nat) : Int)) (j := ((i + 1 : Nat) : Int)) (mulOk_of (a := 12) (b := 12) (by omega) (by omega))
        rw [show ((i + 1 : Nat) : Int) * ((i + 1 : Nat) : Int) = (((i + 1) * (i + 1) : Nat) : Int) by push_cast; rfl] at mm
        have md := modN (n := (i + 1) * (i + 1)) (x := p) (by omega) (by omega)
        have eq := eqF_int false (((i + 1) * (i + 1) % p : Nat) : Int) (x % p)
        show lcGo _ _ _ _ (.int (1 + (i : Int)) :: L.map fun (i : Nat) => .int (1 + (i : Int))) [] = _
        rw [e1]
        unfold lcGo
        have s2 : xOp (eqF false) (xOp modF (xOp mulF (xBo 3) (xBo 3)) (xBo 1)) (xBo 2) [.dat (.int x), .dat (.int p), .dat (.int (x % p)), .dat (.int ((i + 1 : Nat) : Int))] [] = some (.bool (decide ((((i + 1) * (i + 1) % p : Nat) : Int) = x % p)), []) := by
          generalize ((i + 1 : Nat) : Int) = Z1 at *
          generalize (((i + 1) * (i + 1) : Nat) : Int) = Z2 at *
          generalize (((i + 1) * (i + 1) % p : Nat) : Int) = Z3 at *
          generalize x % p = Z4 at *
          simp [mm, md, eq, -modF]
        have s1 : gN 3 (.int ((i + 1 : Nat) : Int)) [.dat (.int x), .dat (.int p), .dat (.int (x % p)), .un] = some [.dat (.int x), .dat (.int p), .dat (.int (x % p)), .dat (.int ((i + 1 : Nat) : Int))] := by simp
        rw [s1]
        simp only [Option.bind_some, xYes, if_true]
        rw [s2]
        simp only [Option.bind_some]
        rw [ih]
        rfl
    exact gen (List.range (p / 2)) fun i hi => List.mem_range.mp hi
  have bo : boolsO ((List.range (p / 2)).map fun i => (.bool (decide ((((i + 1) * (i + 1) % p : Nat) : Int) = x % p)) : D)) = some ((List.range (p / 2)).map fun i => decide ((((i + 1) * (i + 1) % p : Nat) : Int) = x % p)) := by
    have : ∀ (f : Nat → Bool) (L : List Nat), boolsO (L.map fun i => (.bool (f i) : D)) = some (L.map f) := by
      intro f L
      induction L with
      | nil => rfl
      | cons i L ih => show (boolsO (L.map fun i => (.bool (f i) : D))).map _ = _; rw [ih]; rfl
    exact this _ _
  have af : anyF [.list ((List.range (p / 2)).map fun i => (.bool (decide ((((i + 1) * (i + 1) % p : Nat) : Int) = x % p)) : D))] = some (.bool ((List.range (p / 2)).any fun i => decide ((((i + 1) * (i + 1) % p : Nat) : Int) = x % p))) := by
    show (boolsO _).map _ = _
    rw [bo]
    show some (PyData.bool _) = _
    rw [List.any_map]; rfl
  have r1 : rgOk (((p / 2 : Nat) : Int) + 1) = true := rgOk_mk (by omega) (by omega)
  have r0 : rgOk 1 = true := rgOk_mk (by omega) (by omega)
  have t : (((p / 2 : Nat) : Int) + 1 - 1).toNat = p / 2 := by omega
  have t2 : (((p / 2 : Nat) : Int)).toNat = p / 2 := by omega
  have ln : (rg 1 (p / 2)).length = p / 2 := rg_length _ _
  have n1 : p / 2 ≤ 100000 := by omega
  unfold sym
  generalize ((List.range (p / 2)).map fun i => (.bool (decide ((((i + 1) * (i + 1) % p : Nat) : Int) = x % p)) : D)) = BL at *
  generalize ((List.range (p / 2)).any fun i => decide ((((i + 1) * (i + 1) % p : Nat) : Int) = x % p)) = AB at *
  have ad : addF (.int ((p / 2 : Nat) : Int)) (.int 1) = some (.int (((p / 2 : Nat) : Int) + 1)) := rfl
  by_cases c : x % p = 0
  · rw [if_pos c]
    rw [c] at m
    have e0 := eqF_int false 0 0
    simp [F_symbol, B_symbol, ci, ip, e2, m, e0, -modF]
  · rw [if_neg c]
    have ne : decide (x % p = 0) = false := decide_eq_false c
    rw [ne] at e0
    generalize x % p = Z at *
    generalize ((p / 2 : Nat) : Int) = P2 at *
    cases AB <;> simp [F_symbol, B_symbol, ci, ip, e2, m, e0, q, ad, r1, r0, t, t2, ln, n1, L, af, -modF, -fdivF, -lcGo, -anyF, -addF]
end K81

noncomputable section
namespace K81
open PySem PySem.Spec PyProof.Rows L2 EP FL
/-! ### kinds -/
def stL : Ps → Int → Int
  | [], a => a
  | q :: L, a => stL L (if q.2 % 2 = 0 then a else a * q.1)
theorem kind_loop (X Y : FL.Slot) (c5 : FL.Slot) (π : Pot) : ∀ (L : Ps) (a : Int) (B : Nat) (c3 c4 : FL.Slot), (∀ q ∈ L, 1 ≤ q.1 ∧ q.1 ≤ 23 ∧ q.2 ≠ 0 ∧ -60 ≤ q.2 ∧ q.2 ≤ 60) → a.natAbs < 2 ^ B → 0 < B → B + 10 * L.length ≤ 2000 → c3.isOwn = false → c4.isOwn = false → ∃ c3' c4' : FL.Slot, forGo (gT 2 (gsC (gN 3) (gsC (gN 4) gsN))) B_kind_told_b1 (rowsP L) [X, Y, .dat (.int a), c3, c4, c5] π = some ([X, Y, .dat (.int (stL L a)), c3', c4', c5], π, .nx)
  | [], a, B, c3, c4, _, _, _, _, _, _ => ⟨c3, c4, rfl⟩
  | q :: L, a, B, c3, c4, ok, hb, B0, hB, h3, h4 => by
    have o1 := ok q List.mem_cons_self
    rw [List.length_cons] at hB
    have md := modF_of (i := q.2) (j := 2) (divOk_of (by decide) (by decide)) (by decide)
    have m := mulOk_of (i := a) (j := q.1) (a := B) (b := 10) (by omega) (by omega) B0 (by decide) (by omega)
    have nb : (if q.2 % 2 = 0 then a else a * q.1).natAbs < 2 ^ (B + 10) := by
      split
      · exact Nat.lt_of_lt_of_le hb (Nat.pow_le_pow_right (by decide) (by omega))
      · rw [Int.natAbs_mul, Nat.pow_add]
        exact Nat.mul_lt_mul'' hb (by omega)
    obtain ⟨c3', c4', ih⟩ := kind_loop X Y c5 π L (if q.2 % 2 = 0 then a else a * q.1) (B + 10) (.dat (.int q.1)) (.dat (.int q.2)) (fun r hr => ok r (List.mem_cons_of_mem _ hr)) nb (by omega) (by omega) rfl rfl
    refine ⟨c3', c4', ?_⟩
    have e : stL (q :: L) a = stL L (if q.2 % 2 = 0 then a else a * q.1) := rfl
    rw [e]
    show forGo _ _ (.tuple [.int q.1, .int q.2] :: rowsP L) _ π = _
    unfold forGo
    have b : B_kind_told_b1 [X, Y, .dat (.int a), .dat (.int q.1), .dat (.int q.2), c5] π = some ([X, Y, .dat (.int (if q.2 % 2 = 0 then a else a * q.1)), .dat (.int q.1), .dat (.int q.2), c5], π, .nx) := by
      by_cases c : q.2 % 2 = 0
      · rw [if_pos c]
        rw [c] at md
        simp [B_kind_told_b1, md, eqF_int, -modF]
      · rw [if_neg c]
        generalize q.2 % 2 = Z at *
        simp [B_kind_told_b1, md, eqF_int, c, m, -modF]
    simp [h3, h4, b, ih, -forGo]
def wgt (ps : Ps) : Int := Psum ps / 2
def stN (ps : Ps) : Nat := (stL ps 1).toNat
def sgn (ps : Ps) : Int := if wgt ps % 2 = 0 then opL (fac (stN ps)) 1 else - opL (fac (stN ps)) 1
def okK (ps : Ps) : Bool := decide (0 < stL ps 1) && (decide (stL ps 1 < 300) && (okF (fac (stN ps)) && decide ((fac (stN ps)).length ≤ 100)))
theorem kind_told_eq {ps : Ps} (g : Gp ps) (ok : okK ps = true) : F_kind_told [Pd ps] = some (.tuple [.int (wgt ps), .int (sgn ps)]) := by
  unfold okK at ok
  rw [Bool.and_eq_true, Bool.and_eq_true, Bool.and_eq_true] at ok
  obtain ⟨k1, k2, k3, k4⟩ := ok
  have k1 := of_decide_eq_true k1
  have k2 := of_decide_eq_true k2
  have k4 := of_decide_eq_true k4
  have l4 := g.len
  have e1 : F_power_sum [Pd ps] = some (.int (Psum ps)) := power_sum_eq g
  obtain ⟨c3, c4, e⟩ := kind_loop (.dat (Pd ps)) (.dat (.int (wgt ps))) .un [] ps 1 10 .un .un g.ok (by decide) (by decide) (by omega) rfl rfl
  have sn : stL ps 1 = (stN ps : Int) := by unfold stN; omega
  rw [sn] at e
  have op := odd_primes_eq (n := stN ps) (by omega) (by omega) k3 k4
  have q := fdivF_of (i := Psum ps) (j := 2) (divOk_of (by decide) (by decide)) (by decide)
  have q : fdivF (.int (Psum ps)) (.int 2) = some (.int (wgt ps)) := q
  have md := modF_of (i := wgt ps) (j := 2) (divOk_of (by decide) (by decide)) (by decide)
  have kx : ixF (Pd ps) (.int 1) = some (.tuple (rowsP ps)) := by simp [Pd]
  have ln : (rowsP ps).length ≤ 100000 := by rw [rowsP_length]; omega
  have eq := eqF_int false (wgt ps % 2) 0
  unfold sgn
  generalize opL (fac (stN ps)) 1 = OP at *
  generalize ((stN ps : Nat) : Int) = SN at *
  generalize wgt ps = W at *
  generalize rowsP ps = R at *
  generalize Pd ps = P at *
  by_cases c : W % 2 = 0
  · rw [if_pos c]
    rw [decide_eq_true c] at eq
    generalize W % 2 = Z at *
    simp [F_kind_told, B_kind_told, e1, q, kx, ln, e, op, md, eq, -modF, -fdivF, -forGo, -ixF]
  · rw [if_neg c]
    rw [decide_eq_false c] at eq
    generalize W % 2 = Z at *
    simp [F_kind_told, B_kind_told, e1, q, kx, ln, e, op, md, eq, -modF, -fdivF, -forGo, -ixF]
/-! ### orders -/
def wd (L e : Nat) : Nat := L / (e * Nat.gcd e (L / e))
def sN (q : Int × Int) : Nat := q.1.toNat
def ot (L e : Nat) (q : Int × Int) : Int := ((Nat.gcd e (sN q) * Nat.gcd e (sN q) : Nat) : Int) * ((L / sN q : Nat) : Int) * q.2
def opt (ps : Ps) (L e : Nat) : Int := (wd L e : Int) * (ps.map (ot L e)).sum
theorem width_eq {L e : Nat} (e0 : 0 < e) (eL : e ≤ L) (L1 : L ≤ 120) : F_width_at [.int L, .int e] = some (.int (wd L e)) := by
  have q := divN (n := L) (x := e) e0 (by omega)
  have gg : gcdF [.int (e : Int), .int ((L / e : Nat) : Int)] = some (.int ((Nat.gcd e (L / e) : Nat) : Int)) := rfl
  have gp : 0 < Nat.gcd e (L / e) := Nat.gcd_pos_of_pos_left _ e0
  have gl : Nat.gcd e (L / e) ≤ e := Nat.gcd_le_left _ e0
  unfold wd
  generalize Nat.gcd e (L / e) = G at *
  have m := mulF_of (i := (e : Int)) (j := (G : Int)) (mulOk_of (a := 12) (b := 12) (by omega) (by omega))
  rw [show (e : Int) * (G : Int) = ((e * G : Nat) : Int) by push_cast; rfl] at m
  have eg : e * G ≤ 120 * 120 := Nat.mul_le_mul (by omega) (by omega)
  have q2 := divN (n := L) (x := e * G) (Nat.mul_pos e0 gp) (by omega)
  generalize ((L / (e * G) : Nat) : Int) = Z1 at *
  generalize ((e * G : Nat) : Int) = Z2 at *
  generalize ((L / e : Nat) : Int) = Z3 at *
  simp [F_width_at, B_width_at, q, gg, m, q2, -fdivF, -gcdF]
theorem order_part_eq {ps : Ps} (g : Gp ps) {L e : Nat} (e0 : 0 < e) (eL : e ≤ L) (L1 : L ≤ 120) : F_order_part [Pd ps, .int L, .int e] = some (.int (opt ps L e)) := by
  have kx : ixF (Pd ps) (.int 1) = some (.tuple (rowsP ps)) := by simp [Pd]
  have l4 := g.len
  have ln : (rowsP ps).length ≤ 100000 := by rw [rowsP_length]; omega
  have X := lc_rowsP (tg := gT 2 (gsC (gN 4) (gsC (gN 5) gsN))) (el := xOp mulF (xOp mulF (xOp powF (xCb gcdF (aCons (xBo 2) (aCons (xBo 4) aNil))) (xC (.int 2))) (xOp fdivF (xBo 1) (xBo 4))) (xBo 5)) (ρw := [.dat (Pd ps), .dat (.int L), .dat (.int e), .un, .un, .un]) (π := []) (fun q => .int (ot L e q)) ps fun q hq => by
    have ok := g.ok q hq
    have hs : q.1 = (sN q : Int) := by unfold sN; omega
    have hT : ot L e q = ((Nat.gcd e (sN q) * Nat.gcd e (sN q) : Nat) : Int) * ((L / sN q : Nat) : Int) * q.2 := rfl
    rw [hT, hs]
    have s0 : 1 ≤ sN q ∧ sN q ≤ 23 := by omega
    generalize sN q = s at *
    have gg : gcdF [.int (e : Int), .int (s : Int)] = some (.int ((Nat.gcd e s : Nat) : Int)) := rfl
    have gl : Nat.gcd e s ≤ e := Nat.gcd_le_left _ e0
    generalize Nat.gcd e s = G at *
    have pw : powF (.int (G : Int)) (.int 2) = some (.int ((G * G : Nat) : Int)) := by
      have c : powOk (G : Int) 2 = true := powOk_of (by omega) (by decide) (by decide)
      have e : (G : Int) ^ 2 = ((G * G : Nat) : Int) := by push_cast; simp [Int.pow_succ]
      simp [powF, c, e]
    have g2 : G * G ≤ 120 * 120 := Nat.mul_le_mul (by omega) (by omega)
    generalize G * G = G2 at *
    have q1 := divN (n := L) (x := s) (by omega) (by omega)
    have qb := Nat.div_le_self L s
    generalize L / s = Q at *
    have m1 := mulF_of (i := (G2 : Int)) (j := (Q : Int)) (mulOk_of (a := 16) (b := 12) (by omega) (by omega))
    have b1 : ((G2 : Int) * (Q : Int)).natAbs < 2 ^ 28 := by
      rw [Int.natAbs_mul]; exact Nat.lt_of_lt_of_le (Nat.mul_lt_mul'' (show (G2 : Int).natAbs < 2 ^ 16 by omega) (show (Q : Int).natAbs < 2 ^ 12 by omega)) (by decide)
    have m2 := mulF_of (i := (G2 : Int) * (Q : Int)) (j := q.2) (mulOk_of (a := 28) (b := 12) b1 (by omega))
    refine ⟨_, rfl, ?_⟩
    simp [gg, pw, q1, m1, m2, -gcdF, -fdivF]
  have io := intsO_ints (ot L e) ps
  have l5 : ps.length ≤ 100000 := by omega
  have w := width_eq e0 eL L1
  have sb : ∀ L2 : Ps, (∀ q ∈ L2, q ∈ ps) → ((L2.map (ot L e)).sum).natAbs ≤ L2.length * 200000000 := by
    intro L2
    induction L2 with
    | nil => intro _; simp
    | cons q L2 ih =>
      intro h
      have ih := ih fun r hr => h r (List.mem_cons_of_mem _ hr)
      have ok := g.ok q (h q List.mem_cons_self)
      have gl : Nat.gcd e (sN q) ≤ e := Nat.gcd_le_left _ e0
      have t : (ot L e q).natAbs ≤ 120 * 120 * 120 * 60 := by
        unfold ot
        rw [Int.natAbs_mul, Int.natAbs_mul, Int.natAbs_natCast, Int.natAbs_natCast]
        exact Nat.mul_le_mul (Nat.mul_le_mul (Nat.mul_le_mul (by omega) (by omega)) (Nat.le_trans (Nat.div_le_self _ _) L1)) (by omega)
      rw [List.map_cons, List.sum_cons, List.length_cons]
      omega
  have sb2 := sb ps fun q hq => hq
  have sb3 : ps.length * 200000000 ≤ 4 * 200000000 := Nat.mul_le_mul_right _ l4
  have wl : wd L e ≤ L := Nat.div_le_self _ _
  unfold opt
  have m := mulF_of (i := (wd L e : Int)) (j := (ps.map (ot L e)).sum) (mulOk_of (a := 12) (b := 40) (by omega) (by omega))
  generalize ((wd L e : Nat) : Int) = WD at *
  generalize rowsP ps = R at *
  generalize Pd ps = P at *
  simp [F_order_part, B_order_part, kx, X, io, ln, l5, w, m, -lcGo, -ixF, -gcdF, -fdivF]
end K81

noncomputable section
namespace K81
open PySem PySem.Spec PyProof.Rows L2 EP FL
theorem bools_list (f : Nat → Bool) : ∀ L : List Nat, boolsO (L.map fun i => (.bool (f i) : D)) = some (L.map f)
  | [] => rfl
  | i :: L => by show (boolsO (L.map fun i => (.bool (f i) : D))).map _ = _; rw [bools_list f L]; rfl
/-- all that is asked of a product and a level -/
def okL (ps : Ps) (L : Nat) : Bool := okK ps && (Hst ps L && (decide (Psum ps % 2 = 0) && (decide (Ssum ps % 24 = 0) && (decide (Tsum ps L % 24 = 0) && (decide (1 ≤ wgt ps ∧ wgt ps ≤ 24) && ((divs L).all fun e => decide (0 ≤ opt ps L e)))))))
structure Gl (ps : Ps) (L : Nat) : Prop where
  g : Gp ps
  L0 : 1 ≤ L
  L1 : L ≤ 120
  ok : okL ps L = true
theorem Gl.all {ps : Ps} {L : Nat} (h : Gl ps L) : okK ps = true ∧ Hst ps L = true ∧ Psum ps % 2 = 0 ∧ Ssum ps % 24 = 0 ∧ Tsum ps L % 24 = 0 ∧ (1 ≤ wgt ps ∧ wgt ps ≤ 24) ∧ ∀ e ∈ divs L, 0 ≤ opt ps L e := by
  have o := h.ok
  unfold okL at o
  rw [Bool.and_eq_true, Bool.and_eq_true, Bool.and_eq_true, Bool.and_eq_true, Bool.and_eq_true, Bool.and_eq_true] at o
  obtain ⟨a, b, c, d, e, f, k⟩ := o
  exact ⟨a, b, of_decide_eq_true c, of_decide_eq_true d, of_decide_eq_true e, of_decide_eq_true f, fun x hx => of_decide_eq_true (List.all_eq_true.mp k x hx)⟩
theorem divisors_of_eq {n : Nat} (h0 : 1 ≤ n) (h : n ≤ 2880) : F_divisors_of [.int n] = some (.list (nl (divs n))) := by
  have w1 := is_within_eq (n : Int) 1 1000000
  rw [decide_eq_true (by omega)] at w1
  have cn : F_check_number [.int n, .int 1, .int 1000000] = some .none := by simp [F_check_number, B_check_number, w1]
  have iq : isqOk (n : Int) = true := cdec_of (by omega)
  have tn : (n : Int).toNat = n := by omega
  have sr : Float64.isqrt n = sq n := sq_isqrt h
  have sl := sq_le n
  have r1 : rgOk ((sq n : Nat) + 1 : Int) = true := rgOk_mk (by omega) (by omega)
  have r0 : rgOk 1 = true := rgOk_mk (by omega) (by omega)
  have t1 : ((sq n : Int) + 1 - 1).toNat = sq n := by omega
  have L1 : lcGo (gN 3) (xT (xOp (eqF false) (xOp modF (xBo 0) (xBo 3)) (xC (.int 0)))) (xVar 3) [.dat (.int n), .un, .un, .un] (rg 1 (sq n)) [] = some (nl (low n), []) := by
    rw [rg_nl]
    exact lc_nl (p := fun d => n % d == 0) (f := fun d => (d : Int)) _ fun x hx => by
      obtain ⟨i, hi, rfl⟩ := List.mem_map.mp hx
      have hi := List.mem_range.mp hi
      clear hx
      have x0 : 0 < i + 1 := by omega
      have x1 : i + 1 < 100 := by omega
      generalize i + 1 = x at *
      refine ⟨_, rfl, ?_, fun _ => rfl⟩
      have e := modN (show 0 < x by omega) (show x < 1000000 by omega) (n := n)
      have e2 := eqN (n % x) 0
      simp only [Int.natCast_zero] at e2
      generalize ((n % x : Nat) : Int) = y at *
      simp [e, e2, -modF]
  have L2 : lcGo (gN 3) (xT (xOp (eqF true) (xOp mulF (xBo 3) (xBo 3)) (xBo 0))) (xOp fdivF (xBo 0) (xBo 3)) [.dat (.int n), .dat (.list (nl (low n))), .un, .un] (nl (low n).reverse) [] = some (nl (high n), []) := by
    have e := lc_nl (tg := gN 3) (tt := (xT (xOp (eqF true) (xOp mulF (xBo 3) (xBo 3)) (xBo 0)))) (el := (xOp fdivF (xBo 0) (xBo 3))) (ρw := [.dat (.int n), .dat (.list (nl (low n))), .un, .un]) (π := []) (p := fun d => d * d != n) (f := fun d => ((n / d : Nat) : Int)) (low n).reverse fun x hx => by
      obtain ⟨x0, x1, x2⟩ := low_mem (List.mem_reverse.mp hx) h0
      have d1 : divOk (n : Int) (x : Int) = true := divOk_of (by omega) (by omega)
      have q1 := fdivF_of d1 (by omega)
      have m1 : mulOk (x : Int) (x : Int) = true := mulOk_of (a := 30) (b := 30) (by omega) (by omega)
      refine ⟨_, rfl, ?_, fun _ => ?_⟩
      · have e : (decide ((x : Int) * x = n)) = (x * x == n) := by
          by_cases c : x * x = n
          · have : (x : Int) * x = n := by rw [← c]; push_cast; rfl
            simp [c, this]
          · have : ¬ (x : Int) * x = n := fun z => c (by have z2 : ((x * x : Nat) : Int) = n := by rw [← z]; push_cast; rfl
                                                         omega)
            simp [c, this]
        simp [mulF_of m1, eqF_int, e]
        show _ = !(!(x * x == n))
        cases (x * x == n) <;> rfl
      · simp [q1, -fdivF]
    rw [e]
    unfold high nl
    rw [List.map_map]
    rfl
  have rv : (nl (low n)).reverse = nl (low n).reverse := by unfold nl; rw [List.map_reverse]
  have ap : nl (low n) ++ nl (high n) = nl (divs n) := by unfold nl divs; rw [List.map_append]
  have ll := low_length n
  have hl := high_length n
  have n3 : (nl (low n)).length + (nl (high n)).length ≤ 100000 := by rw [nl_length, nl_length]; omega
  have n0 : (nl (low n).reverse).length ≤ 100000 := by rw [nl_length, List.length_reverse]; omega
  have n1 : (nl (low n)).length ≤ 100000 := by rw [nl_length]; omega
  have sl2 : sq n ≤ 100000 := by omega
  have n2 : (nl (high n)).length ≤ 100000 := by rw [nl_length]; omega
  generalize nl (low n) = A at *
  generalize nl (high n) = B at *
  generalize nl (low n).reverse = A2 at *
  generalize nl (divs n) = C at *
  simp [F_divisors_of, B_divisors_of, cn, iq, tn, sr, r1, r0, t1, L1, rv, L2, ap, rg_length, n1, n2, n0, n3, sl2, -lcGo, -modF, -fdivF]
theorem order_parts_eq {ps : Ps} {L : Nat} (h : Gl ps L) : F_order_parts [Pd ps, .int L] = some (.list ((divs L).map fun e => .int (opt ps L e))) := by
  have d := divisors_of_eq h.L0 (show L ≤ 2880 by have := h.L1; omega)
  have X := lc_rowI (tg := gN 2) (tt := xYes) (el := xCb F_order_part (aCons (xVar 0) (aCons (xVar 1) (aCons (xVar 2) aNil)))) (ρw := [.dat (Pd ps), .dat (.int L), .un]) (π := []) (fun e => (e : Int)) (fun e => .int (opt ps L e)) (divs L) fun e he => by
    have m := divs_mem he h.L0
    have o := order_part_eq h.g (L := L) (e := e) (by omega) m.2 h.L1
    exact ⟨_, rfl, rfl, by simp [o]⟩
  have X : lcGo (gN 2) xYes (xCb F_order_part (aCons (xVar 0) (aCons (xVar 1) (aCons (xVar 2) aNil)))) [.dat (Pd ps), .dat (.int L), .un] (nl (divs L)) [] = _ := X
  have ln : (nl (divs L)).length ≤ 100000 := by rw [nl_length]; have := divs_length L; omega
  generalize nl (divs L) = A at *
  generalize Pd ps = P at *
  simp [F_order_parts, B_order_parts, d, X, ln, -lcGo]
theorem check_carried_eq {ps : Ps} {L : Nat} (h : Gl ps L) : F_check_carried [.int L, Pd ps] = some .none := by
  obtain ⟨k, hs, p2, s24, t24, w, o⟩ := h.all
  have la := lacking_eq h.g (l := (L : Int)) (by omega) (by have := h.L1; omega) hs p2 s24 t24
  have f := fits_eq la
  have kt := kind_told_eq h.g k
  have op := order_parts_eq h
  have X := lc_rowI (tg := gN 2) (tt := xYes) (el := xOp (cmpF fun i j => decide (j ≤ i)) (xBo 2) (xC (.int 0))) (ρw := [.dat (.int L), .dat (Pd ps), .un]) (π := []) (opt ps L) (fun _ => .bool true) (divs L) fun e he => by
    have := o e he
    have d : decide (0 ≤ opt ps L e) = true := decide_eq_true this
    refine ⟨_, rfl, rfl, ?_⟩
    generalize opt ps L e = Z at *
    simp [this]
  have bo := bools_list (fun _ => true) (divs L)
  have af : allF [.list ((divs L).map fun _ => (.bool true : D))] = some (.bool true) := by
    show (boolsO _).map _ = _
    rw [bo]
    show some (PyData.bool _) = _
    congr 2
    rw [List.all_map]
    simp
  have ln : ((divs L).map fun e => (.int (opt ps L e) : D)).length ≤ 100000 := by rw [List.length_map]; have := divs_length L; omega
  have c1 : cmpF (fun i j => decide (i ≤ j)) (.int 1) (.int (wgt ps)) = some (.bool true) := by
    have : decide (1 ≤ wgt ps) = true := decide_eq_true w.1
    simp [w.1]
  have c2 : cmpF (fun i j => decide (i ≤ j)) (.int (wgt ps)) (.int 24) = some (.bool true) := by simp [w.2]
  have ic : F_is_carried [.int L, Pd ps] = some (.bool true) := by
    generalize ((divs L).map fun e => (.int (opt ps L e) : D)) = A at *
    generalize ((divs L).map fun _ => (.bool true : D)) = A2 at *
    generalize Pd ps = P at *
    generalize wgt ps = W at *
    simp [F_is_carried, B_is_carried, kt, c1, c2, op, X, ln, af, -lcGo, -cmpF, -allF]
  generalize Pd ps = P at *
  simp [F_check_carried, B_check_carried, f, ic]
/-! ### the greatest place asked -/
def okI (L : Nat) : Bool := okF (fac L) && decide ((fac L).length ≤ 100)
def bnd (ps : Ps) (L : Nat) : Int := wgt ps * idxL (fac L) L / 12
theorem last_asked_eq {ps : Ps} {L : Nat} (h : Gl ps L) (ok : okI L = true) (ib : (idxL (fac L) L).natAbs < 1000) : F_last_asked [.int L, Pd ps] = some (.int (bnd ps L)) := by
  unfold okI at ok
  rw [Bool.and_eq_true] at ok
  have ix := index_of_eq (n := L) (by have := h.L0; omega) h.L1 ok.1 (of_decide_eq_true ok.2)
  obtain ⟨k, _, _, _, _, w, _⟩ := h.all
  have kt := kind_told_eq h.g k
  unfold bnd
  generalize idxL (fac L) L = I at *
  have m := mulF_of (i := wgt ps) (j := I) (mulOk_of (a := 12) (b := 12) (by omega) (by omega))
  have q := fdivF_of (i := wgt ps * I) (j := 12) (divOk_of (by decide) (by decide)) (by decide)
  generalize wgt ps * I = Z at *
  generalize Pd ps = P at *
  generalize wgt ps = W at *
  simp [F_last_asked, B_last_asked, kt, ix, m, q, -fdivF]
theorem places_asked_eq {ps : Ps} {L : Nat} (h : Gl ps L) (ok : okI L = true) (ib : (idxL (fac L) L).natAbs < 1000) : F_places_asked [.int L, Pd ps] = some (.int (bnd ps L)) := by
  have c1 := check_level_ok (l := (L : Int)) ⟨by have := h.L0; omega, by have := h.L1; omega⟩
  have c2 := check_product_ok h.g
  have c3 := check_carried_eq h
  have la := last_asked_eq h ok ib
  generalize Pd ps = P at *
  simp [F_places_asked, B_places_asked, c1, c2, c3, la]
theorem first_placed_eq {ps : Ps} (g : Gp ps) : F_first_placed [Pd ps] = some (.int (Ssum ps / 24)) := by
  have e2 : F_shift_sum [Pd ps] = some (.int (Ssum ps)) := shift_sum_eq g
  have q := fdivF_of (i := Ssum ps) (j := 24) (divOk_of (by decide) (by decide)) (by decide)
  generalize Ssum ps = S at *
  generalize Pd ps = P at *
  simp [F_first_placed, B_first_placed, e2, q, -fdivF]
theorem symbol_at_eq {ps : Ps} {L p : Nat} (h : Gl ps L) (p3 : 3 ≤ p) (pb : p ≤ 97) (f : fac p = [((p : Int), 1)]) (d : L % p ≠ 0) : F_symbol_at [.int L, Pd ps, .int p] = some (.int (sym (sgn ps) p)) := by
  have c1 := check_level_ok (l := (L : Int)) ⟨by have := h.L0; omega, by have := h.L1; omega⟩
  have c2 := check_product_ok h.g
  have c3 := check_carried_eq h
  have c4 := check_prime_eq (l := L) p3 pb f d
  obtain ⟨k, _, _, _, _, w, _⟩ := h.all
  have kt := kind_told_eq h.g k
  have s := symbol_eq (x := sgn ps) p3 pb f
  generalize Pd ps = P at *
  generalize sgn ps = W at *
  simp [F_symbol_at, B_symbol_at, c1, c2, c3, c4, kt, s]
end K81

noncomputable section
namespace K81
open PySem PySem.Spec PyProof.Rows L2 EP FL PSr
theorem rgOk_nat {N : Nat} (h : N < 100000) : rgOk (N : Int) = true := rgOk_mk (by omega) (by omega)
theorem rg17 : rgOk 1 = true ∧ True := ⟨rgOk_mk (by decide) (by decide), trivial⟩
theorem ixN_of {n : Nat} {i : Int} (h0 : 0 ≤ i) (h1 : i < n) : ixN n i = some i.toNat := by
  unfold ixN
  rw [if_pos h0, if_pos h1]
theorem n3_self {d N : Nat} (hd : 0 < d) : n3 (d : Int) (N : Int) (d : Int) = if d < N then (N - d - 1) / d + 1 else 0 := by
  unfold n3 Builtin.Range.rangeSize
  rw [if_pos (by omega)]
  by_cases c : d < N
  · rw [if_pos (by omega), if_pos c]
    have e : (N : Int) - (d : Int) - 1 = ((N - d - 1 : Nat) : Int) := by omega
    rw [e]
    have : ((N - d - 1 : Nat) : Int) / (d : Int) = (((N - d - 1) / d : Nat) : Int) := rfl
    rw [this]
    generalize (N - d - 1) / d = q
    omega
  · rw [if_neg (by omega), if_neg c]; rfl
theorem sums_b1 {N d : Nat} (hd : 0 < d) (hd2 : d ≤ 100) (e t : Nat → Int) (he : (e d).natAbs < 1000) (k : Nat) (hk : d + k * d < N) (hN : N ≤ 100) (π : Pot) :
    B_sums_of_b1 [.arg (rowI N e), .dat (.int (N : Int)), .own (rowI N t), .dat (.int (d : Int)), .dat (.int ((d : Int) + (k : Int) * (d : Int)))] π =
      some ([.arg (rowI N e), .dat (.int (N : Int)), .own (rowI N fun i => if i = d + k * d then t i - (d : Int) * e d else t i), .dat (.int (d : Int)), .dat (.int ((d : Int) + (k : Int) * (d : Int)))], π, .nx) := by
  have ek : (d : Int) + (k : Int) * (d : Int) = ((d + k * d : Nat) : Int) := by push_cast; rfl
  have pk : (0 : Int) ≤ (d : Int) + (k : Int) * (d : Int) := by rw [ek]; omega
  have tk : ((d : Int) + (k : Int) * (d : Int)).toNat = d + k * d := by rw [ek]; omega
  have dk : d ≤ d + k * d := Nat.le_add_right _ _
  have a1 : atI (rowI N t) ((d : Int) + (k : Int) * (d : Int)) = some (.int (t (d + k * d))) := by rw [rowI_at pk (by rw [tk]; exact hk), tk]
  have a2 : atI (rowI N e) (d : Int) = some (.int (e d)) := by rw [rowI_at (by omega) (by omega)]; rfl
  have x1 : ixN N ((d : Int) + (k : Int) * (d : Int)) = some (d + k * d) := by rw [ixN_of pk (by rw [ek]; omega), tk]
  have mk : mulOk (d : Int) (e d) = true := mulOk_of (a := 10) (b := 10) (by omega) (by omega)
  have fin : (rowI N t).set (d + k * d) (.int (t (d + k * d) - (d : Int) * e d)) = rowI N fun i => if i = d + k * d then t i - (d : Int) * e d else t i := by
    rw [rowI_set]
    exact rowI_congr fun i _ => by
      by_cases c : i = d + k * d
      · rw [if_pos c, if_pos c, c]
      · rw [if_neg c, if_neg c]
  simp [B_sums_of_b1, a1, a2, x1, mk, mulF, fin]
theorem sums_in {N d : Nat} (hd : 0 < d) (hd2 : d < N) (e t : Nat → Int) (he : (e d).natAbs < 1000) (hN : N ≤ 100) (c4 : FL.Slot) (π : Pot) :
    ∃ c4', forGo (gN 4) B_sums_of_b1 (rg3 (d : Int) (N : Int) (d : Int)) [.arg (rowI N e), .dat (.int (N : Int)), .own (rowI N t), .dat (.int (d : Int)), c4] π =
      some ([.arg (rowI N e), .dat (.int (N : Int)), .own (rowI N fun i => t i - PSr.dv d i * e d), .dat (.int (d : Int)), c4'], π, .nx) := by
  have n3e := n3_self (N := N) hd
  rw [if_pos hd2] at n3e
  obtain ⟨ρ', π', E, c4', hρ, hπ⟩ := forGo_inv (tg := gN 4) (b := B_sums_of_b1) (fun k ρ π' => ∃ c4 : FL.Slot, ρ = [.arg (rowI N e), .dat (.int (N : Int)), .own (rowI N fun i => if d ≤ i ∧ i % d = 0 ∧ i < d + k * d then t i - (d : Int) * e d else t i), .dat (.int (d : Int)), c4] ∧ π' = π) (rg3 (d : Int) (N : Int) (d : Int)) (by
    rintro k x ρ π' hx ⟨c4, rfl, rfl⟩
    obtain ⟨lk, rfl⟩ := rg3_get hx
    rw [n3e] at lk
    have hk : d + k * d < N := by
      have h1 : k ≤ (N - d - 1) / d := by omega
      have h2 : k * d ≤ N - d - 1 := (Nat.le_div_iff_mul_le hd).mp h1
      omega
    refine ⟨_, _, _, rfl, .inl (sums_b1 hd (by omega) e _ he k hk hN π'), .dat (.int ((d : Int) + (k : Int) * (d : Int))), ?_, rfl⟩
    congr 3
    congr 1
    refine rowI_congr fun i hi => ?_
    have e1 : d + (k + 1) * d = d + k * d + d := by rw [Nat.succ_mul]; omega
    by_cases c : i = d + k * d
    · rw [if_pos c, if_neg (show ¬ (d ≤ i ∧ i % d = 0 ∧ i < d + k * d) by omega), if_pos ⟨by omega, by rw [c, Nat.add_mul_mod_self_right, Nat.mod_self], by omega⟩]
    · rw [if_neg c]
      by_cases c2 : d ≤ i ∧ i % d = 0 ∧ i < d + k * d
      · rw [if_pos c2, if_pos ⟨c2.1, c2.2.1, by omega⟩]
      · rw [if_neg c2, if_neg]
        rintro ⟨z1, z2, z3⟩
        refine c2 ⟨z1, z2, ?_⟩
        obtain ⟨q, hq⟩ := Nat.dvd_of_mod_eq_zero z2
        rw [e1] at z3
        have : q < k + 2 := by
          rw [hq] at z3
          have : d * q < d * (k + 2) := by rw [Nat.mul_add]; have := Nat.mul_comm k d; omega
          exact Nat.lt_of_mul_lt_mul_left this
        have nq : q ≠ k + 1 := fun z => c (by rw [hq, z, Nat.mul_add, Nat.mul_comm d k]; omega)
        rw [hq]
        have : d * q ≤ d * k := Nat.mul_le_mul_left d (by omega)
        rw [Nat.mul_comm k d]; omega) (ρ := [.arg (rowI N e), .dat (.int (N : Int)), .own (rowI N t), .dat (.int (d : Int)), c4]) (π := π) ⟨c4, by
      congr 3
      congr 1
      exact rowI_congr fun i hi => by rw [if_neg (by omega)], rfl⟩
  have hrow : rowI N (fun i => if d ≤ i ∧ i % d = 0 ∧ i < d + ((N - d - 1) / d + 1) * d then t i - (d : Int) * e d else t i) = rowI N (fun i => t i - PSr.dv d i * e d) := by
    refine rowI_congr fun i hi => ?_
    have far : N ≤ d + ((N - d - 1) / d + 1) * d := by
      have := Nat.div_add_mod (N - d - 1) d
      have := Nat.mod_lt (N - d - 1) hd
      rw [Nat.succ_mul, Nat.mul_comm]; omega
    unfold PSr.dv
    by_cases c : i = 0
    · rw [if_neg (by omega), if_pos c]; simp
    · rw [if_neg c]
      by_cases c2 : i % d = 0
      · have : d ≤ i := Nat.le_of_dvd (by omega) (Nat.dvd_of_mod_eq_zero c2)
        rw [if_pos ⟨this, c2, by omega⟩, if_pos c2]
      · rw [if_neg fun z => c2 z.2.1, if_neg c2]; simp
  subst hρ; subst hπ
  rw [rg3_length, n3e, hrow] at E
  exact ⟨c4', E⟩
def sgm (e : Nat → Int) (M k : Nat) : Int := - PSr.sm M fun j => PSr.dv (j + 1) k * e (j + 1)
theorem sums_b2 {N d : Nat} (hd : 0 < d) (hd2 : d < N) (e t : Nat → Int) (he : (e d).natAbs < 1000) (hN : N ≤ 100) (c4 : FL.Slot) (π : Pot) :
    ∃ c4', B_sums_of_b2 [.arg (rowI N e), .dat (.int (N : Int)), .own (rowI N t), .dat (.int (d : Int)), c4] π =
      some ([.arg (rowI N e), .dat (.int (N : Int)), .own (rowI N fun i => t i - PSr.dv d i * e d), .dat (.int (d : Int)), c4'], π, .nx) := by
  have a2 : atI (rowI N e) (d : Int) = some (.int (e d)) := by rw [rowI_at (by omega) (by omega)]; rfl
  have r3 : r3Ok (d : Int) (N : Int) (d : Int) = true := cdec_of ⟨⟨by omega, by omega⟩, ⟨by omega, by omega⟩, by omega, by omega, by omega⟩
  by_cases z : e d = 0
  · refine ⟨c4, ?_⟩
    have hrow : rowI N (fun i => t i - PSr.dv d i * e d) = rowI N t := rowI_congr fun i _ => by rw [z]; simp
    rw [hrow]
    simp [eqF_int, B_sums_of_b2, a2, z]
  · obtain ⟨c4', E⟩ := sums_in hd hd2 e t he hN c4 π
    refine ⟨c4', ?_⟩
    simp [eqF_int, B_sums_of_b2, a2, z, r3, E, -forGo]
theorem rep0 {N : Nat} (h : N ≤ 100000) : repF (.list [.int 0]) (.int (N : Int)) = some (.list (rowI N fun _ => 0)) := by
  unfold repF
  have c : (N : Int) ≤ 100000 ∧ -100000 ≤ (N : Int) ∧ [(PyData.int 0)].length * (N : Int).toNat ≤ 100000 := ⟨by omega, by omega, by simp; omega⟩
  simp only [if_pos c]
  have : (List.replicate (N : Int).toNat [(PyData.int 0)]).flatten = rowI N fun _ => 0 := by
    rw [← rowI_replicate]
    simp
  rw [this]
theorem sums_eq {M : Nat} (e : Nat → Int) (he : ∀ i, i ≤ M → (e i).natAbs < 1000) (hM : M < 100) : F_sums_of [.list (rowI (M + 1) e), .int ((M + 1 : Nat) : Int)] = some (.list (rowI M fun i => sgm e M (i + 1))) := by
  obtain ⟨ρ', π', E, c3, c4, hρ, hπ⟩ := forGo_inv (tg := gN 3) (b := B_sums_of_b2) (fun k ρ π' => ∃ c3 c4 : FL.Slot, ρ = [.arg (rowI (M + 1) e), .dat (.int ((M + 1 : Nat) : Int)), .own (rowI (M + 1) fun i => sgm e k i), c3, c4] ∧ π' = []) (rg 1 M) (by
    rintro k x ρ π' hx ⟨c3, c4, rfl, rfl⟩
    obtain ⟨lk, rfl⟩ := rg_get hx
    obtain ⟨c4', b⟩ := sums_b2 (N := M + 1) (d := k + 1) (by omega) (by omega) e (fun i => sgm e k i) (he _ (by omega)) (by omega) c4 []
    have ek : (1 : Int) + (k : Int) = ((k + 1 : Nat) : Int) := by omega
    have hrow : rowI (M + 1) (fun i => sgm e k i - PSr.dv (k + 1) i * e (k + 1)) = rowI (M + 1) (fun i => sgm e (k + 1) i) := rowI_congr fun i _ => by
      unfold sgm; rw [PSr.sm_succ]; omega
    rw [hrow] at b
    exact ⟨_, _, _, rfl, .inl (by rw [ek]; exact b), _, c4', rfl, rfl⟩) (ρ := [.arg (rowI (M + 1) e), .dat (.int ((M + 1 : Nat) : Int)), .own (rowI (M + 1) fun _ => 0), .un, .un]) (π := []) ⟨.un, .un, by
      have : rowI (M + 1) (fun _ => (0 : Int)) = rowI (M + 1) (fun i => sgm e 0 i) := rowI_congr fun i _ => by unfold sgm; rfl
      rw [this], rfl⟩
  subst hρ; subst hπ
  rw [rg_length] at E
  have r0 := rep0 (N := M + 1) (by omega)
  have k1 := rg17.1
  have k2 := rgOk_nat (N := M + 1) (by omega)
  have cc : cutL (.list (rowI (M + 1) fun i => sgm e M i)) (some 1) none = some (.list (rowI M fun i => sgm e M (i + 1))) := by
    have := cut_drop (rowI (M + 1) fun i => sgm e M i) 1 (by simp)
    rw [rowI_drop] at this
    exact congrArg (fun z => some (PyData.list z)) this
  have nt : (((M + 1 : Nat) : Int) - 1).toNat = M := by omega
  generalize hn : ((M + 1 : Nat) : Int) = n at *
  simp [F_sums_of, B_sums_of, r0, k1, k2, nt, E, cc, -forGo, -cutL]
theorem rowp_b1 {M k : Nat} (k1 : 1 ≤ k) (kM : k ≤ M) (hM : M ≤ 100) (s A : Nat → Int) (hs : ∀ i, i < M → (s i).natAbs < 2 ^ 100) (hA : ∀ i, i < k → (A i).natAbs < 2 ^ 1000)
    (hr : (k : Int) * A k = PSr.sm k fun i => s i * A (k - 1 - i)) (p m : FL.Slot) (c5 c6 c7 : FL.Slot) (o6 : c6.isOwn = false) (o7 : c7.isOwn = false) (π : Pot) :
    ∃ c5', B_row_by_powers_b1 [p, m, .dat (.list (rowI M s)), .own (rowI k A), .dat (.int (k : Int)), c5, c6, c7] π = some ([p, m, .dat (.list (rowI M s)), .own (rowI (k + 1) A), .dat (.int (k : Int)), c5', c6, c7], π, .nx) := by
  have d1 : ∀ x : Int, divOk x (k : Int) = true := fun x => divOk_of (by omega) (by omega)
  have e : lcGo (gT 2 (gsC (gN 6) (gsC (gN 7) gsN))) xYes (xOp mulF (xBo 6) (xBo 7)) [p, m, .dat (.list (rowI M s)), .own (rowI k A), .dat (.int (k : Int)), c5, .un, .un] (zipD (rowI M s) (rowI k fun i => A (k - 1 - i))) π = some (rowI (min M k) fun i => s i * A (k - 1 - i), π) :=
    lcGo_zip M k s (fun i => A (k - 1 - i)) (fun i => s i * A (k - 1 - i)) fun i a b => by
      have mk : mulOk (s i) (A (k - 1 - i)) = true := mulOk_of (a := 100) (b := 1000) (hs i a) (hA _ (by omega))
      exact ⟨[p, m, .dat (.list (rowI M s)), .own (rowI k A), .dat (.int (k : Int)), c5, .dat (.int (s i)), .dat (.int (A (k - 1 - i)))], by simp, rfl, by simp [mulF, mk]⟩
  rw [show min M k = k by omega] at e
  have rv : revL (.list (rowI k A)) = some (.list (rowI k fun i => A (k - 1 - i))) := by simp only [revL, rowI_reverse]
  have su := sumF_rowI k fun i => s i * A (k - 1 - i)
  rw [← hr] at su
  have zl : (zipD (rowI M s) (rowI k fun i => A (k - 1 - i))).length ≤ 100000 := by rw [zipD_length, rowI_length, rowI_length]; omega
  have pk : 0 < k := by omega
  have dv : (k : Int) * A k / (k : Int) = A k := Int.mul_ediv_cancel_left _ (by omega)
  have sn := rowI_succ k A
  have kl : k < 100000 := by omega
  refine ⟨.dat (.int ((k : Int) * A k)), ?_⟩
  simp [B_row_by_powers_b1, rv, zl, e, su, d1, pk, dv, kl, sn, o6, o7, -lcGo, -revL, -zipD, -sumF]
theorem sm_bound (c : Nat) (f : Nat → Int) : ∀ n, (∀ i, i < n → (f i).natAbs ≤ c) → (PSr.sm n f).natAbs ≤ n * c
  | 0, _ => by simp
  | n + 1, h => by
    have := sm_bound c f n fun i l => h i (by omega)
    have := h n (by omega)
    rw [PSr.sm_succ, Nat.succ_mul]; omega
theorem dv_le (d k : Nat) : 0 ≤ PSr.dv d k ∧ PSr.dv d k ≤ d := by
  unfold PSr.dv
  split
  · omega
  · split <;> omega
theorem sgm_bound {e : Nat → Int} {M : Nat} (he : ∀ i, i ≤ M → (e i).natAbs < 1000) (hM : M < 100) (k : Nat) : (sgm e M k).natAbs < 2 ^ 100 := by
  have h := sm_bound 100000 (fun j => PSr.dv (j + 1) k * e (j + 1)) M fun j l => by
    have a := dv_le (j + 1) k
    have b := he (j + 1) (by omega)
    rw [Int.natAbs_mul]
    calc (PSr.dv (j + 1) k).natAbs * (e (j + 1)).natAbs ≤ 100 * 1000 := Nat.mul_le_mul (by omega) (by omega)
      _ = 100000 := rfl
  have : M * 100000 ≤ 100 * 100000 := Nat.mul_le_mul (by omega) (Nat.le_refl _)
  unfold sgm
  rw [Int.natAbs_neg]
  omega
theorem rowp_eq {M : Nat} (e A : Nat → Int) (he : ∀ i, i ≤ M → (e i).natAbs < 1000) (hM : M < 100) (A0 : A 0 = 1) (hA : ∀ i, i ≤ M → (A i).natAbs < 2 ^ 1000)
    (hr : ∀ k, 1 ≤ k → k ≤ M → (k : Int) * A k = PSr.sm k fun i => sgm e M (i + 1) * A (k - 1 - i)) :
    F_row_by_powers [.list (rowI (M + 1) e), .int ((M + 1 : Nat) : Int)] = some (.list (rowI (M + 1) A)) := by
  have se := sums_eq e he hM
  obtain ⟨ρ', π', E, c4, c5, hρ, hπ⟩ := forGo_inv (tg := gN 4) (b := B_row_by_powers_b1) (fun k ρ π' => ∃ c4 c5 : FL.Slot, ρ = [.arg (rowI (M + 1) e), .dat (.int ((M + 1 : Nat) : Int)), .dat (.list (rowI M fun i => sgm e M (i + 1))), .own (rowI (k + 1) A), c4, c5, .un, .un] ∧ π' = []) (rg 1 M) (by
    rintro k x ρ π' hx ⟨c4, c5, rfl, rfl⟩
    obtain ⟨lk, rfl⟩ := rg_get hx
    have ek : (1 : Int) + (k : Int) = ((k + 1 : Nat) : Int) := by omega
    obtain ⟨c5', b⟩ := rowp_b1 (M := M) (k := k + 1) (by omega) (by omega) (by omega) (fun i => sgm e M (i + 1)) A (fun i _ => sgm_bound he hM _) (fun i l => hA i (by omega)) (hr (k + 1) (by omega) (by omega)) (.arg (rowI (M + 1) e)) (.dat (.int ((M + 1 : Nat) : Int))) c5 .un .un rfl rfl []
    exact ⟨_, _, _, rfl, .inl (by rw [ek]; exact b), _, c5', rfl, rfl⟩) (ρ := [.arg (rowI (M + 1) e), .dat (.int ((M + 1 : Nat) : Int)), .dat (.list (rowI M fun i => sgm e M (i + 1))), .own [.int 1], .un, .un, .un, .un]) (π := []) ⟨.un, .un, by
      have : rowI (0 + 1) A = [.int 1] := by rw [rowI_succ, A0]; rfl
      rw [this], rfl⟩
  subst hρ; subst hπ
  rw [rg_length] at E
  have k1 := rg17.1
  have k2 := rgOk_nat (N := M + 1) (by omega)
  have nt : (((M + 1 : Nat) : Int) - 1).toNat = M := by omega
  have nz : ¬ (((M + 1 : Nat) : Int) = 0) := by omega
  generalize hn : ((M + 1 : Nat) : Int) = n at *
  simp [eqF_int, F_row_by_powers, B_row_by_powers, se, k1, k2, nt, nz, E, -forGo]
theorem rowp_zero (d : D) : F_row_by_powers [d, .int 0] = some (.list []) := by
  simp [eqF_int, F_row_by_powers, B_row_by_powers]
theorem n3_lt {d N k : Nat} (d0 : 0 < d) : k < n3 (d : Int) N d ↔ (k + 1) * d < N := by
  have e : (k + 1) * d = k * d + d := Nat.succ_mul k d
  have dk : ((k * d : Nat) : Int) = (k : Int) * d := by push_cast; rfl
  unfold n3 Builtin.Range.rangeSize
  rw [if_pos (by omega)]
  by_cases c : (d : Int) < N
  · rw [if_pos c]
    have nn := Int.ediv_nonneg (show (0 : Int) ≤ (N : Int) - d - 1 by omega) (show (0 : Int) ≤ d by omega)
    have m := Int.le_ediv_iff_mul_le (a := (k : Int)) (b := (N : Int) - d - 1) (c := (d : Int)) (by omega)
    generalize ((N : Int) - d - 1) / d = q at *
    generalize (k : Int) * d = z at *
    omega
  · rw [if_neg c]
    omega

theorem num_b1 {N d : Nat} (d0 : 0 < d) (hd : d < N) (hN : N ≤ 100) (f : Nat → Int) (x : Int) (s0 s1 s3 c5 : FL.Slot) (h5 : c5.isOwn = false) (π : Pot) : ∃ c5' : FL.Slot, c5'.isOwn = false ∧
    forGo (gN 5) B_numbers_of_b1 (rg3 d N d) [s0, s1, .own (rowI N f), s3, .dat (.int x), c5] π = some ([s0, s1, .own (rowI N fun p => if 0 < p ∧ p % d = 0 then f p + x else f p), s3, .dat (.int x), c5'], π, .nx) := by
  have L := forGo_inv (tg := gN 5) (b := B_numbers_of_b1) (fun i ρ π2 => ∃ c5 : FL.Slot, ρ = [s0, s1, .own (rowI N fun p => if 0 < p ∧ p % d = 0 ∧ p ≤ i * d then f p + x else f p), s3, .dat (.int x), c5] ∧ π2 = π ∧ c5.isOwn = false) (rg3 d N d) (by
    rintro i dd ρ π2 hd ⟨c5, rfl, rfl, h5⟩
    obtain ⟨li, rfl⟩ := rg3_get hd
    have lt := (n3_lt d0).mp li
    have e0 : (d : Int) + (i : Int) * d = (((i + 1) * d : Nat) : Int) := by push_cast; rw [Int.add_mul]; omega
    rw [e0]
    have e7 : (i + 1) * d = i * d + d := Nat.succ_mul i d
    have pm : (i + 1) * d % d = 0 := Nat.mul_mod_left _ _
    generalize hV : (i + 1) * d = V at *
    have e1 : atI (rowI N fun p => if 0 < p ∧ p % d = 0 ∧ p ≤ i * d then f p + x else f p) (V : Int) = some (.int (f V)) := by
      rw [rowI_at (by omega) (by omega)]
      rw [show (V : Int).toNat = V by omega, if_neg (by omega)]
    have e4 : ixN (rowI N fun p => if 0 < p ∧ p % d = 0 ∧ p ≤ i * d then f p + x else f p).length (V : Int) = some V := by
      unfold ixN
      have : (rowI N fun p => if 0 < p ∧ p % d = 0 ∧ p ≤ i * d then f p + x else f p).length = N := by simp [rowI]
      rw [this, if_pos (by omega), if_pos (by omega)]
      congr 1
    refine ⟨_, [s0, s1, .own ((rowI N fun p => if 0 < p ∧ p % d = 0 ∧ p ≤ i * d then f p + x else f p).set V (.int (f V + x))), s3, .dat (.int x), .dat (.int (V : Int))], π2, by simp [h5]; rfl, .inl ?_, .dat (.int (V : Int)), ?_, rfl, rfl⟩
    · generalize hR : (rowI N fun p => if 0 < p ∧ p % d = 0 ∧ p ≤ i * d then f p + x else f p) = R at *
      simp [B_numbers_of_b1, e1, e4]
    · rw [rowI_set]
      have hrow : (rowI N fun p => if p = V then f V + x else if 0 < p ∧ p % d = 0 ∧ p ≤ i * d then f p + x else f p) = rowI N fun p => if 0 < p ∧ p % d = 0 ∧ p ≤ (i + 1) * d then f p + x else f p := rowI_congr fun p hp => by
        rw [hV]
        by_cases c : p = V
        · subst c
          rw [if_pos rfl, if_pos ⟨by omega, pm, by omega⟩]
        · rw [if_neg c]
          by_cases c2 : 0 < p ∧ p % d = 0 ∧ p ≤ i * d
          · rw [if_pos c2, if_pos ⟨c2.1, c2.2.1, by omega⟩]
          · rw [if_neg c2, if_neg]
            rintro ⟨p1, p2, p3⟩
            have e8 := Nat.div_add_mod p d
            rw [p2] at e8
            have e9 : d * (p / d) = p / d * d := Nat.mul_comm _ _
            by_cases c3 : p / d ≤ i
            · have := Nat.mul_le_mul_right d c3
              exact c2 ⟨p1, p2, by omega⟩
            · by_cases c4 : p / d = i + 1
              · have : p / d * d = (i + 1) * d := by rw [c4]
                omega
              · have := Nat.mul_le_mul_right d (show i + 2 ≤ p / d by omega)
                have : (i + 2) * d = i * d + 2 * d := by rw [Nat.add_mul]
                omega
      rw [hrow, hV]) (ρ := [s0, s1, .own (rowI N f), s3, .dat (.int x), c5]) (π := π) ⟨c5, by
        have hrow : (rowI N fun p => if 0 < p ∧ p % d = 0 ∧ p ≤ 0 * d then f p + x else f p) = rowI N f := rowI_congr fun p hp => by
          rw [if_neg (by omega)]
        rw [hrow], rfl, h5⟩
  obtain ⟨ρ', π', e, c5', rfl, rfl, h5'⟩ := L
  rw [rg3_length] at e
  refine ⟨c5', h5', ?_⟩
  rw [e]
  have hrow : (rowI N fun p => if 0 < p ∧ p % d = 0 ∧ p ≤ n3 d N d * d then f p + x else f p) = rowI N fun p => if 0 < p ∧ p % d = 0 then f p + x else f p := rowI_congr fun p hp => by
    by_cases c : 0 < p ∧ p % d = 0
    · have key : p ≤ n3 d N d * d := by
        have e8 := Nat.div_add_mod p d
        rw [c.2] at e8
        have e9 : d * (p / d) = p / d * d := Nat.mul_comm _ _
        have q0 : 0 < p / d := by
          rcases Nat.eq_zero_or_pos (p / d) with z | z
          · rw [z, Nat.mul_zero] at e8; omega
          · exact z
        have := (n3_lt (N := N) (k := p / d - 1) d0).mpr (by rw [show p / d - 1 + 1 = p / d by omega]; omega)
        have := Nat.mul_le_mul_right d (show p / d ≤ n3 d N d by omega)
        omega
      rw [if_pos c, if_pos ⟨c.1, c.2, key⟩]
    · rw [if_neg c, if_neg (fun z => c ⟨z.1, z.2.1⟩)]
  rw [hrow]

def ee : Ps → (Nat → Int) → (Nat → Int)
  | [], f => f
  | q :: ps, f => ee ps fun p => if 0 < p ∧ p % sN q = 0 then f p + q.2 else f p
def eS : Ps → Nat → Int
  | [], _ => 0
  | q :: ps, n => (if n % sN q = 0 then q.2 else 0) + eS ps n
theorem ee_eS : ∀ (ps : Ps) (f : Nat → Int) (n : Nat), 0 < n → ee ps f n = f n + eS ps n
  | [], f, n, _ => by show f n = f n + 0; omega
  | q :: ps, f, n, h => by
    show ee ps _ n = f n + ((if n % sN q = 0 then q.2 else 0) + eS ps n)
    rw [ee_eS ps _ n h]
    by_cases c : n % sN q = 0
    · rw [if_pos ⟨h, c⟩, if_pos c]; omega
    · rw [if_neg fun z => c z.2, if_neg c]; omega
theorem ee_zero : ∀ (ps : Ps) (f : Nat → Int), ee ps f 0 = f 0
  | [], f => rfl
  | q :: ps, f => by
    show ee ps _ 0 = f 0
    rw [ee_zero ps]
    rw [if_neg (by omega)]
theorem num_loop {N : Nat} (hN : N ≤ 100) (X : FL.Slot) (π : Pot) : ∀ (ps : Ps) (f : Nat → Int) (c3 c4 c5 : FL.Slot), (∀ q ∈ ps, 1 ≤ sN q ∧ sN q ≤ 23 ∧ q.1 = (sN q : Int) ∧ q.2.natAbs ≤ 60) → c3.isOwn = false → c4.isOwn = false → c5.isOwn = false → ∃ c3' c4' c5' : FL.Slot,
    forGo (gT 2 (gsC (gN 3) (gsC (gN 4) gsN))) B_numbers_of_b2 (rowsP ps) [X, .dat (.int N), .own (rowI N f), c3, c4, c5] π = some ([X, .dat (.int N), .own (rowI N (ee ps f)), c3', c4', c5'], π, .nx)
  | [], f, c3, c4, c5, _, _, _, _ => ⟨c3, c4, c5, rfl⟩
  | q :: ps, f, c3, c4, c5, h, h3, h4, h5 => by
    obtain ⟨s0, s1, hs, hp⟩ := h q List.mem_cons_self
    have r3 : r3Ok (sN q : Int) N (sN q : Int) = true := cdec_of ⟨⟨by omega, by omega⟩, ⟨by omega, by omega⟩, by omega, by omega, by omega⟩
    have ep : ee (q :: ps) f = ee ps fun p => if 0 < p ∧ p % sN q = 0 then f p + q.2 else f p := rfl
    have step : ∃ d5 : FL.Slot, d5.isOwn = false ∧ B_numbers_of_b2 [X, .dat (.int N), .own (rowI N f), .dat (.int q.1), .dat (.int q.2), c5] π = some ([X, .dat (.int N), .own (rowI N fun p => if 0 < p ∧ p % sN q = 0 then f p + q.2 else f p), .dat (.int q.1), .dat (.int q.2), d5], π, .nx) := by
      by_cases c : sN q < N
      · obtain ⟨d5, e5, b⟩ := num_b1 s0 c (by omega) f q.2 X (.dat (.int N)) (.dat (.int q.1)) c5 h5 π
        refine ⟨d5, e5, ?_⟩
        rw [← hs] at b r3
        generalize (rowI N fun p => if 0 < p ∧ p % sN q = 0 then f p + q.2 else f p) = R1 at *
        generalize rowI N f = R2 at *
        simp [B_numbers_of_b2, r3, b, -forGo]
      · have z : rg3 (sN q : Int) N (sN q : Int) = [] := by
          apply List.eq_nil_of_length_eq_zero
          rw [rg3_length]
          rcases Nat.eq_zero_or_pos (n3 (sN q : Int) N (sN q : Int)) with e | e
          · exact e
          · have := (n3_lt s0).mp e
            omega
        have hr : (rowI N fun p => if 0 < p ∧ p % sN q = 0 then f p + q.2 else f p) = rowI N f := rowI_congr fun p hp => by
          rw [if_neg]
          rintro ⟨a, b⟩
          rw [Nat.mod_eq_of_lt (by omega)] at b
          omega
        refine ⟨c5, h5, ?_⟩
        rw [hr]
        rw [← hs] at z r3
        generalize rowI N f = R2 at *
        simp [B_numbers_of_b2, r3, z]
    obtain ⟨d5, e5, b⟩ := step
    obtain ⟨c3', c4', c5', ih⟩ := num_loop hN X π ps (fun p => if 0 < p ∧ p % sN q = 0 then f p + q.2 else f p) (.dat (.int q.1)) (.dat (.int q.2)) d5 (fun r hr => h r (List.mem_cons_of_mem _ hr)) rfl rfl e5
    refine ⟨c3', c4', c5', ?_⟩
    rw [ep]
    show forGo _ _ (.tuple [.int q.1, .int q.2] :: rowsP ps) _ π = _
    unfold forGo
    generalize (rowI N fun p => if 0 < p ∧ p % sN q = 0 then f p + q.2 else f p) = R1 at *
    generalize rowI N f = R2 at *
    simp [h3, h4, b, ih, -forGo]
theorem sm_split (a b : Nat) (f : Nat → Int) : sm (a + b) f = sm a f + sm b (fun j => f (a + j)) := by
  induction b with
  | zero => simp
  | succ b ih => rw [← Nat.add_assoc, sm_succ, ih, sm_succ, Int.add_assoc]
theorem sm_mult (p : Nat) (hp : 0 < p) (g : Nat → Int) : ∀ n, sm (n + 1) (fun i => if i % p = 0 then g i else 0) = sm (n / p + 1) (fun j => g (p * j))
  | 0 => by simp [PSr.sm]
  | n + 1 => by
    rw [sm_succ, sm_mult p hp g n]
    by_cases c : (n + 1) % p = 0
    · rw [if_pos c]
      obtain ⟨q, hq⟩ := Nat.dvd_of_mod_eq_zero c
      have q0 : 0 < q := by rcases Nat.eq_zero_or_pos q with z | z; (subst z; simp at hq); exact z
      have e1 : (n + 1) / p = q := by rw [hq, Nat.mul_div_cancel_left _ hp]
      have e2 : n / p = q - 1 := by
        have : n = p * (q - 1) + (p - 1) := by
          have : p * q = p * (q - 1) + p := by rw [← Nat.mul_succ]; congr 1; omega
          omega
        rw [this, Nat.mul_add_div hp, Nat.div_eq_of_lt (by omega)]; omega
      rw [e1, e2, show q - 1 + 1 = q by omega, sm_succ, hq]
    · rw [if_neg c]
      have e : (n + 1) / p = n / p := by
        rw [Nat.succ_div, if_neg fun z => c (Nat.mod_eq_zero_of_dvd z)]; rfl
      rw [e]; omega
def nm (s N : Nat) : Nat := n3 (s : Int) (N : Int) (s : Int)
theorem nm_lt {s N k : Nat} (s0 : 0 < s) (h : k < nm s N) : (k + 1) * s < N := (n3_lt s0).mp h
theorem nm_le {s N : Nat} (s0 : 0 < s) : nm s N ≤ N := by
  rcases Nat.eq_zero_or_pos (nm s N) with c | c
  · omega
  · have := nm_lt s0 (show nm s N - 1 < nm s N by omega)
    rw [show nm s N - 1 + 1 = nm s N by omega] at this
    have := Nat.le_mul_of_pos_right (nm s N) s0
    omega
def sQ (N : Nat) : Ps → Nat → Int
  | [], _ => 0
  | q :: ps, k => q.2 * sm (nm (sN q) N) (fun j => dv ((j + 1) * sN q) k) + sQ N ps k
theorem dv_zero (d : Nat) : dv d 0 = 0 := by unfold PSr.dv; rw [if_pos rfl]
theorem sQ_zero (N : Nat) : ∀ ps : Ps, sQ N ps 0 = 0
  | [] => rfl
  | q :: ps => by
    show q.2 * sm _ (fun j => dv ((j + 1) * sN q) 0) + sQ N ps 0 = 0
    rw [sQ_zero N ps, PSr.sm_null fun i _ => dv_zero _]
    omega
theorem nm_div {s M : Nat} (s0 : 0 < s) : nm s (M + 1) = M / s := by
  have a : ∀ k, k < nm s (M + 1) ↔ k < M / s := fun k => by
    unfold nm
    rw [n3_lt s0]
    constructor
    · intro h
      have := (Nat.le_div_iff_mul_le s0 (x := k + 1) (y := M)).mpr (by omega)
      omega
    · intro h
      have := (Nat.le_div_iff_mul_le s0 (x := k + 1) (y := M)).mp (by omega)
      omega
  rcases Nat.lt_trichotomy (nm s (M + 1)) (M / s) with c | c | c
  · have := (a (nm s (M + 1))).mpr c; omega
  · exact c
  · have := (a (M / s)).mp c; omega
theorem mult_sum {s M : Nat} (s0 : 0 < s) (G : Nat → Int) : sm M (fun j => if (j + 1) % s = 0 then G (j + 1) else 0) = sm (M / s) fun j => G ((j + 1) * s) := by
  have e := sm_mult s s0 G M
  rw [PSr.sm_head, PSr.sm_head, Nat.mul_zero, Nat.zero_mod, if_pos rfl] at e
  have e := Int.add_left_cancel e
  rw [e]
  exact sm_congr fun j _ => by rw [Nat.mul_comm]
theorem sgm_sQ {M k : Nat} : ∀ (ps : Ps), (∀ q ∈ ps, 1 ≤ sN q) → sm M (fun j => dv (j + 1) k * eS ps (j + 1)) = sQ (M + 1) ps k
  | [], _ => PSr.sm_null fun i _ => by show _ * (0 : Int) = 0; rw [Int.mul_zero]
  | q :: ps, h => by
    have ih := sgm_sQ (M := M) (k := k) ps fun r hr => h r (List.mem_cons_of_mem _ hr)
    have s0 : 0 < sN q := h q List.mem_cons_self
    have e : sm M (fun j => dv (j + 1) k * eS (q :: ps) (j + 1)) = sm M (fun j => (fun j => q.2 * (if (j + 1) % sN q = 0 then dv (j + 1) k else 0)) j + (fun j => dv (j + 1) k * eS ps (j + 1)) j) := sm_congr fun j _ => by
      show dv (j + 1) k * ((if (j + 1) % sN q = 0 then q.2 else 0) + eS ps (j + 1)) = q.2 * (if (j + 1) % sN q = 0 then dv (j + 1) k else 0) + dv (j + 1) k * eS ps (j + 1)
      rw [Int.mul_add]
      split
      · rw [Int.mul_comm (dv (j + 1) k) q.2]
      · rw [Int.mul_zero, Int.mul_zero]
    rw [e, PSr.sm_add, ih, PSr.sm_mul, mult_sum s0 (fun j => dv j k)]
    show _ = q.2 * sm (nm (sN q) (M + 1)) (fun j => dv ((j + 1) * sN q) k) + sQ (M + 1) ps k
    rw [nm_div s0]
theorem dv_far {d k : Nat} (h : k < d) : dv d k = 0 := by
  unfold PSr.dv
  split
  · rfl
  · rw [Nat.mod_eq_of_lt h, if_neg (by omega)]
theorem sQ_all {N k : Nat} {ps : Ps} (h : ∀ q ∈ ps, 1 ≤ sN q) (hk : k < N) : sQ N ps k = sm k fun j => dv (j + 1) k * eS ps (j + 1) := by
  obtain ⟨M, rfl⟩ : ∃ M, N = M + 1 := ⟨N - 1, by omega⟩
  rw [← sgm_sQ ps h]
  exact PSr.sm_more (by omega) fun i hi _ => by rw [dv_far (by omega), Int.zero_mul]
end K81

noncomputable section
namespace K81
open PySem PySem.Spec PyProof.Rows L2 EP FL PSr
def gt (T : List Int) (n : Nat) : Int := T.getD n 0
def cS (ps : Ps) (k : Nat) : Int := - sm k fun j => dv (j + 1) k * eS ps (j + 1)
def dotL : List Int → List Int → Int
  | s :: S, a :: R => s * a + dotL S R
  | _, _ => 0
def goL (S : List Int) : List Int → List Int → Nat → Bool
  | [], _, _ => true
  | a :: r, R, k => decide ((k : Int) * a = dotL S R) && goL S r (a :: R) (k + 1)
/-- the sum over the divisors, told once -/
def okT (ps : Ps) (S T : List Int) : Bool :=
  decide (S.length = 95) && (decide (T.length = 96) && (decide (T.head? = some 1) && (T.all (fun a => decide (a.natAbs < 2 ^ 200)) && (((List.range 95).all fun i => decide (gt S i = cS ps (i + 1))) && goL S (T.drop 1) [1] 1))))
def S0 : List Int := [-24, -72, -96, -168, -144, -288, -192, -360, -312, -432, -288, -672, -336, -576, -576, -744, -432, -936, -480, -1008, -768, -864, -576, -1440, -744, -1008, -960, -1344, -720, -1728, -768, -1512, -1152, -1296, -1152, -2184, -912, -1440, -1344, -2160, -1008, -2304, -1056, -2016, -1872, -1728, -1152, -2976, -1368, -2232, -1728, -2352, -1296, -2880, -1728, -2880, -1920, -2160, -1440, -4032, -1488, -2304, -2496, -3048, -2016, -3456, -1632, -3024, -2304, -3456, -1728, -4680, -1776, -2736, -2976, -3360, -2304, -4032, -1920, -4464, -2904, -3024, -2016, -5376, -2592, -3168, -2880, -4320, -2160, -5616, -2688, -4032, -3072, -3456, -2880]
def T0 : List Int := [1, -24, 252, -1472, 4830, -6048, -16744, 84480, -113643, -115920, 534612, -370944, -577738, 401856, 1217160, 987136, -6905934, 2727432, 10661420, -7109760, -4219488, -12830688, 18643272, 21288960, -25499225, 13865712, -73279080, 24647168, 128406630, -29211840, -52843168, -196706304, 134722224, 165742416, -80873520, 167282496, -182213314, -255874080, -145589976, 408038400, 308120442, 101267712, -17125708, -786948864, -548895690, -447438528, 2687348496, 248758272, -1696965207, 611981400, -1740295368, 850430336, -1596055698, 1758697920, 2582175960, -1414533120, 2686677840, -3081759120, -5189203740, -1791659520, 6956478662, 1268236032, 1902838392, 2699296768, -2790474540, -3233333376, -15481826884, 10165534848, 4698104544, 1940964480, 9791485272, -9600560640, 1463791322, 4373119536, -6425804700, -15693610240, -8951543328, 3494159424, 38116845680, 4767866880, 1665188361, -7394890608, -29335099668, 6211086336, -33355661220, 411016992, 32358470760, 45164021760, -24992917110, 13173496560, 9673645072, -27442896384, -13316478336, -64496363904, 51494658600, -49569988608]
def p0 : Ps := [(1, 24)]
theorem ok0 : okT p0 S0 T0 = true := by decide +kernel
def S1 : List Int := [-48, -144, -192, -336, -288, -576, -384, -720, -624, -864, -576, -1344, -672, -1152, -1152, -1488, -864, -1872, -960, -2016, -1536, -1728, -1152, -2880, -1488, -2016, -1920, -2688, -1440, -3456, -1536, -3024, -2304, -2592, -2304, -4368, -1824, -2880, -2688, -4320, -2016, -4608, -2112, -4032, -3744, -3456, -2304, -5952, -2736, -4464, -3456, -4704, -2592, -5760, -3456, -5760, -3840, -4320, -2880, -8064, -2976, -4608, -4992, -6096, -4032, -6912, -3264, -6048, -4608, -6912, -3456, -9360, -3552, -5472, -5952, -6720, -4608, -8064, -3840, -8928, -5808, -6048, -4032, -10752, -5184, -6336, -5760, -8640, -4320, -11232, -5376, -8064, -6144, -6912, -5760]
def T1 : List Int := [1, -48, 1080, -15040, 143820, -985824, 4857920, -16295040, 28412910, 38671600, -424520544, 1268350272, -1211937160, -4306546080, 18293091840, -23522231424, -26299018683, 137218594320, -150999182320, -134713340160, 449283648132, -106334043808, -362433219840, -1098958060800, 2872963807910, 2592937954080, -13217772238272, 6804021206080, 18863134609320, -14814525283200, -22894623780864, -13999129854336, 114312068829810, -25795530098240, -225249109142760, 173410338010176, 76228341422780, 110263151439840, -194450128848000, -559210547795200, 794270615175072, -240142500532368, 952384217947360, -332135857702080, -4129776923160600, 3634099566813376, 2722111335278592, 1339916601945600, -6483574667232425, -10089339104250720, 18424634547137616, 1360721746009152, -1312130996155080, -5030302844429280, -27680350662648320, 23189229776357760, 14083388252094870, 31045701436426160, -31651442506232640, -82865402983800000, 60857164935572192, 28325603459839392, 10816158495375360, 13430213593995520, 26621153261659440, -131620903771013424, -160694532111347472, 177423973300235520, 269051049372162960, 167496041649300000, -487980510459514560, -117939335115835008, -355219049678988850, 96189449851028400, 1739944792102275360, -448608889502464768, -832963635055001016, -1561010165657737920, 548335617017922560, 2104383392623854720, -1449191434393565478, 2448003171672996112, -769542128051262720, -2769664869115943040, -1005057334597406620, 655272153081059040, 3037467492718813440, -304549203196268160, 4269192981987980070, -3018997749874317120, -5744687936971695424, -5819753933818377216, 9842285874907613520, 4981174387000684000, -12364509371322286080, 21536924763862843776]
def p1 : Ps := [(1, 48)]
theorem ok1 : okT p1 S1 T1 = true := by decide +kernel
def S2 : List Int := [-8, -40, -32, -104, -48, -160, -64, -232, -104, -240, -96, -416, -112, -320, -192, -488, -144, -520, -160, -624, -256, -480, -192, -928, -248, -560, -320, -832, -240, -960, -256, -1000, -384, -720, -384, -1352, -304, -800, -448, -1392, -336, -1280, -352, -1248, -624, -960, -384, -1952, -456, -1240, -576, -1456, -432, -1600, -576, -1856, -640, -1200, -480, -2496, -496, -1280, -832, -2024, -672, -1920, -544, -1872, -768, -1920, -576, -3016, -592, -1520, -992, -2080, -768, -2240, -640, -2928, -968, -1680, -672, -3328, -864, -1760, -960, -2784, -720, -3120, -896, -2496, -1024, -1920, -960]
def T2 : List Int := [1, -8, 12, 64, -210, -96, 1016, -512, -2043, 1680, 1092, 768, 1382, -8128, -2520, 4096, 14706, 16344, -39940, -13440, 12192, -8736, 68712, -6144, -34025, -11056, -50760, 65024, -102570, 20160, 227552, -32768, 13104, -117648, -213360, -130752, 160526, 319520, 16584, 107520, 10842, -97536, -630748, 69888, 429030, -549696, 472656, 49152, 208713, 272200, 176472, 88448, -1494018, 406080, -229320, -520192, -479280, 820560, 2640660, -161280, 827702, -1820416, -2075688, 262144, -290220, -104832, -126004, 941184, 824544, 1706880, -1414728, 1046016, 980282, -1284208, -408300, -2556160, 1109472, -132672, -3566800, -860160, 3858921, -86736, 5672892, 780288, -3088260, 5045984, -1230840, -559104, -11951190, -3432240, 1404112, 4397568, 2730624, -3781248, 8387400, -393216]
def p2 : Ps := [(1, 8), (2, 8)]
theorem ok2 : okT p2 S2 T2 = true := by decide +kernel
def S3 : List Int := [-16, -32, -64, -64, -96, -128, -128, -128, -208, -192, -192, -256, -224, -256, -384, -256, -288, -416, -320, -384, -512, -384, -384, -512, -496, -448, -640, -512, -480, -768, -512, -512, -768, -576, -768, -832, -608, -640, -896, -768, -672, -1024, -704, -768, -1248, -768, -768, -1024, -912, -992, -1152, -896, -864, -1280, -1152, -1024, -1280, -960, -960, -1536, -992, -1024, -1664, -1024, -1344, -1536, -1088, -1152, -1536, -1536, -1152, -1664, -1184, -1216, -1984, -1280, -1536, -1792, -1280, -1536, -1936, -1344, -1344, -2048, -1728, -1408, -1920, -1536, -1440, -2496, -1792, -1536, -2048, -1536, -1920]
def T3 : List Int := [1, -16, 112, -448, 1136, -2016, 3136, -5504, 9328, -12112, 14112, -21312, 31808, -35168, 38528, -56448, 74864, -78624, 84784, -109760, 143136, -154112, 149184, -194688, 261184, -252016, 246176, -327040, 390784, -390240, 395136, -476672, 599152, -596736, 550368, -693504, 859952, -810464, 768320, -984704, 1175328, -1102752, 1078784, -1272128, 1513152, -1526112, 1362816, -1661184, 2096192, -1887888, 1764112, -2201472, 2496928, -2382048, 2289280, -2685312, 3208832, -3073280, 2731680, -3286080, 4007808, -3631712, 3336704, -4166528, 4793456, -4431168, 4177152, -4812224, 5582304, -5451264, 4854528, -5726592, 7061296, -6224288, 5673248, -7056448, 7792960, -7331328, 6892928, -7888640, 9432864, -8830096, 7719264, -9148608, 10941952, -9906624, 8904896, -10926720, 12424896, -11279520, 10682784, -12097792, 13822848, -13346816, 11628288, -13829760]
def p3 : Ps := [(1, 16), (2, -8)]
theorem ok3 : okT p3 S3 T3 = true := by decide +kernel
def S4 : List Int := [-16, -80, -64, -208, -96, -320, -128, -464, -208, -480, -192, -832, -224, -640, -384, -976, -288, -1040, -320, -1248, -512, -960, -384, -1856, -496, -1120, -640, -1664, -480, -1920, -512, -2000, -768, -1440, -768, -2704, -608, -1600, -896, -2784, -672, -2560, -704, -2496, -1248, -1920, -768, -3904, -912, -2480, -1152, -2912, -864, -3200, -1152, -3712, -1280, -2400, -960, -4992, -992, -2560, -1664, -4048, -1344, -3840, -1088, -3744, -1536, -3840, -1152, -6032, -1184, -3040, -1984, -4160, -1536, -4480, -1280, -5856, -1936, -3360, -1344, -6656, -1728, -3520, -1920, -5568, -1440, -6240, -1792, -4992, -2048, -3840, -1920]
def T4 : List Int := [1, -16, 88, -64, -1300, 4704, 2624, -46464, 60302, 194128, -556768, -217152, 2220344, -1233888, -4413952, 5003904, 2807589, -3700560, 3537104, -15749888, -4261532, 35099936, 24769280, -9127680, -162277882, -10673568, 325446464, -13239104, -16526616, -303494784, -770961408, 884298624, 1006028274, 245121856, -1037568840, -3085488960, 2036928860, 1683539104, 270954368, 3873845504, -7433597024, -1432247856, 4992236128, -4004509248, 4958324264, -6844044224, 10482944000, 13277096448, -26633782985, 4939960032, -20284272112, -10327034688, 59918417784, 16252966752, -2458878464, -48148016000, -35207963018, 1083035792, -35568877632, 78784139712, 110435815904, -14772235296, -56251023360, -7489733888, -182115004368, -98112690960, 226878425904, 68226942720, 115702584592, 16202363232, 89203227456, -209931336576, -638709494674, 387767761040, 76936656800, 96851422976, 420872530312, -175028152896, -247190907904, -336858749568, 1146121793690, -463866103376, -1089609441536, 347525559936, -309075383740, 507670215072, -353096023808, 1821541239936, 348962049414, -894117142464, 1406775565760, -3042865126400, -2534647291952, -434986145120, 3130934607872, 1299613871232]
def p4 : Ps := [(1, 16), (2, 16)]
theorem ok4 : okT p4 S4 T4 = true := by decide +kernel
def S5 : List Int := [-24, -72, -96, -168, -144, -288, -192, -360, -312, -432, -288, -672, -336, -576, -576, -744, -432, -936, -480, -1008, -768, -864, -576, -1440, -744, -1008, -960, -1344, -720, -1728, -768, -1512, -1152, -1296, -1152, -2184, -912, -1440, -1344, -2160, -1008, -2304, -1056, -2016, -1872, -1728, -1152, -2976, -1368, -2232, -1728, -2352, -1296, -2880, -1728, -2880, -1920, -2160, -1440, -4032, -1488, -2304, -2496, -3048, -2016, -3456, -1632, -3024, -2304, -3456, -1728, -4680, -1776, -2736, -2976, -3360, -2304, -4032, -1920, -4464, -2904, -3024, -2016, -5376, -2592, -3168, -2880, -4320, -2160, -5616, -2688, -4032, -3072, -3456, -2880]
def T5 : List Int := [1, -24, 252, -1472, 4830, -6048, -16744, 84480, -113643, -115920, 534612, -370944, -577738, 401856, 1217160, 987136, -6905934, 2727432, 10661420, -7109760, -4219488, -12830688, 18643272, 21288960, -25499225, 13865712, -73279080, 24647168, 128406630, -29211840, -52843168, -196706304, 134722224, 165742416, -80873520, 167282496, -182213314, -255874080, -145589976, 408038400, 308120442, 101267712, -17125708, -786948864, -548895690, -447438528, 2687348496, 248758272, -1696965207, 611981400, -1740295368, 850430336, -1596055698, 1758697920, 2582175960, -1414533120, 2686677840, -3081759120, -5189203740, -1791659520, 6956478662, 1268236032, 1902838392, 2699296768, -2790474540, -3233333376, -15481826884, 10165534848, 4698104544, 1940964480, 9791485272, -9600560640, 1463791322, 4373119536, -6425804700, -15693610240, -8951543328, 3494159424, 38116845680, 4767866880, 1665188361, -7394890608, -29335099668, 6211086336, -33355661220, 411016992, 32358470760, 45164021760, -24992917110, 13173496560, 9673645072, -27442896384, -13316478336, -64496363904, 51494658600, -49569988608]
def p5 : Ps := [(1, 24)]
theorem ok5 : okT p5 S5 T5 = true := by decide +kernel
def S6 : List Int := [-32, -64, -128, -128, -192, -256, -256, -256, -416, -384, -384, -512, -448, -512, -768, -512, -576, -832, -640, -768, -1024, -768, -768, -1024, -992, -896, -1280, -1024, -960, -1536, -1024, -1024, -1536, -1152, -1536, -1664, -1216, -1280, -1792, -1536, -1344, -2048, -1408, -1536, -2496, -1536, -1536, -2048, -1824, -1984, -2304, -1792, -1728, -2560, -2304, -2048, -2560, -1920, -1920, -3072, -1984, -2048, -3328, -2048, -2688, -3072, -2176, -2304, -3072, -3072, -2304, -3328, -2368, -2432, -3968, -2560, -3072, -3584, -2560, -3072, -3872, -2688, -2688, -4096, -3456, -2816, -3840, -3072, -2880, -4992, -3584, -3072, -4096, -3072, -3840]
def T6 : List Int := [1, -32, 480, -4480, 29152, -140736, 525952, -1580800, 3994080, -8945824, 18626112, -36714624, 67978880, -118156480, 197120256, -321692928, 509145568, -772845120, 1143441760, -1681379200, 2428524096, -3392205824, 4658843520, -6411152640, 8705492608, -11488092896, 15000919872, -19697555200, 25593401600, -32467266240, 40864033536, -51795303424, 65187410400, -80260032000, 98098623936, -121104536064, 148724365664, -178700132800, 213678303360, -258435807488, 310833534528, -366596606784, 430766443520, -511639565440, 605650030464, -703721487552, 813970121472, -953657756160, 1114278938240, -1276663032096, 1459109743392, -1690021350144, 1950191746880, -2211175972800, 2501771434240, -2865790363392, 3276617044224, -3681475197440, 4123710423360, -4684599972480, 5312729918208, -5915776149184, 6577187988480, -7417890118400, 8343854313952, -9227832609408, 10192977099264, -11408394520960, 12753104541120, -14023098866688, 15381040762368, -17120183572224, 19038480120160, -20795132618560, 22694341540416, -25138177118848, 27781190019200, -30209056619520, 32821288113920, -36148427138560, 39787170321984, -43082012867872, 46557730203840, -51079796246400, 56002624113664, -60344602038144, 64980485411712, -71045100560640, 77532844003200, -83258623391040, 89371091275584, -97272824420864, 105820240208640, -113313211043840, 121112841033216, -131453661661440]
def p6 : Ps := [(1, 32), (2, -16)]
theorem ok6 : okT p6 S6 T6 = true := by decide +kernel
def S7 : List Int := [-6, -18, -42, -42, -36, -126, -48, -90, -150, -108, -72, -294, -84, -144, -252, -186, -108, -450, -120, -252, -336, -216, -144, -630, -186, -252, -474, -336, -180, -756, -192, -378, -504, -324, -288, -1050, -228, -360, -588, -540, -252, -1008, -264, -504, -900, -432, -288, -1302, -342, -558, -756, -588, -324, -1422, -432, -720, -840, -540, -360, -1764, -372, -576, -1200, -762, -504, -1512, -408, -756, -1008, -864, -432, -2250, -444, -684, -1302, -840, -576, -1764, -480, -1116, -1446, -756, -504, -2352, -648, -792, -1260, -1080, -540, -2700, -672, -1008, -1344, -864, -720]
def T7 : List Int := [1, -6, 9, 4, 6, -54, -40, 168, 81, -36, -564, 36, 638, 240, 54, -1136, 882, -486, -556, 24, -360, 3384, -840, 1512, -3089, -3828, 729, -160, 4638, -324, 4400, 1440, -5076, -5292, -240, 324, -2410, 3336, 5742, 1008, -6870, 2160, 9644, -2256, 486, 5040, -18672, -10224, -15207, 18534, 7938, 2552, 33750, -4374, -3384, -6720, -5004, -27828, -18084, 216, 39758, -26400, -3240, 27712, 3828, 30456, -23068, 3528, -7560, 1440, -4248, 13608, -41110, 14460, -27801, -2224, 22560, -34452, 21920, -6816, 6561, 41220, 82452, -1440, 5292, -57864, 41742, -94752, -94086, -2916, -25520, -3360, 39600, 112032, -3336, 12960]
def p7 : Ps := [(1, 6), (3, 6)]
theorem ok7 : okT p7 S7 T7 = true := by decide +kernel
def S8 : List Int := [-9, -27, -27, -63, -54, -81, -72, -135, -81, -162, -108, -189, -126, -216, -162, -279, -162, -243, -180, -378, -216, -324, -216, -405, -279, -378, -243, -504, -270, -486, -288, -567, -324, -486, -432, -567, -342, -540, -378, -810, -378, -648, -396, -756, -486, -648, -432, -837, -513, -837, -486, -882, -486, -729, -648, -1080, -540, -810, -540, -1134, -558, -864, -648, -1143, -756, -972, -612, -1134, -648, -1296, -648, -1215, -666, -1026, -837, -1260, -864, -1134, -720, -1674, -729, -1134, -756, -1512, -972, -1188, -810, -1620, -810, -1458, -1008, -1512, -864, -1296, -1080]
def T8 : List Int := [1, -9, 27, -9, -117, 216, 27, -450, 459, -9, -648, 1080, -117, -1530, 1350, 216, -1845, 2592, 27, -3258, 2808, -450, -3240, 4752, 459, -5409, 4590, -9, -5850, 7560, -648, -8658, 7371, 1080, -7776, 10800, -117, -12330, 9774, -1530, -11016, 15120, 1350, -16650, 14040, 216, -14256, 19872, -1845, -22059, 16227, 2592, -19890, 25272, 27, -25920, 22950, -3258, -22680, 31320, 2808, -33498, 25974, -450, -29493, 36720, -3240, -40410, 33696, 4752, -32400, 45360, 459, -47970, 36990, -5409, -42354, 54000, 4590, -56178, 44280, -9, -45360, 61992, -5850, -62208, 49950, 7560, -55080, 71280, -648, -76500, 61776, -8658, -59616, 78192]
def p8 : Ps := [(1, 9), (3, -3)]
theorem ok8 : okT p8 S8 T8 = true := by decide +kernel
def S9 : List Int := [-12, -36, -84, -84, -72, -252, -96, -180, -300, -216, -144, -588, -168, -288, -504, -372, -216, -900, -240, -504, -672, -432, -288, -1260, -372, -504, -948, -672, -360, -1512, -384, -756, -1008, -648, -576, -2100, -456, -720, -1176, -1080, -504, -2016, -528, -1008, -1800, -864, -576, -2604, -684, -1116, -1512, -1176, -648, -2844, -864, -1440, -1680, -1080, -720, -3528, -744, -1152, -2400, -1524, -1008, -3024, -816, -1512, -2016, -1728, -864, -4500, -888, -1368, -2604, -1680, -1152, -3528, -960, -2232, -2892, -1512, -1008, -4704, -1296, -1584, -2520, -2160, -1080, -5400, -1344, -2016, -2688, -1728, -1440]
def T9 : List Int := [1, -12, 54, -100, 45, -108, 692, -108, -2970, 1012, 4542, 13176, -25168, -33660, 27864, 97944, 61641, -295812, -142780, 227172, 613548, -32656, -1181916, 54000, 449990, 1389960, -1340064, -1153484, 2112750, 18684, 1743312, -6661260, 733698, 2254360, 3347622, 8303472, -12411916, 3731088, -12164040, 5791304, 1293552, -9223740, 32953480, -6426540, 16096104, -41598920, -18616584, 4806432, -21287225, 59070816, 21980484, 52828164, -47707947, -58895640, -28333760, -56054724, 38434878, 56318732, 120012660, -19667232, -51385816, -4568940, -117793440, -12981320, 4876092, 203668884, 22381548, -215783856, 94966560, -241397760, 31738068, 122619744, 465457502, 292868700, -618180552, -85831216, -275736114, -337218660, -248343280, 541588680, 759842154, 373564252, 29869536, 164634120, -736577428, -1260582948, 526876272, -4704432, -162856170, -303370056, 874937072, 629577804, -557367264, 522368440, 1936850832, -1118686896]
def p9 : Ps := [(1, 12), (3, 12)]
theorem ok9 : okT p9 S9 T9 = true := by decide +kernel
def S10 : List Int := [-15, -45, -69, -105, -90, -207, -120, -225, -231, -270, -180, -483, -210, -360, -414, -465, -270, -693, -300, -630, -552, -540, -360, -1035, -465, -630, -717, -840, -450, -1242, -480, -945, -828, -810, -720, -1617, -570, -900, -966, -1350, -630, -1656, -660, -1260, -1386, -1080, -720, -2139, -855, -1395, -1242, -1470, -810, -2151, -1080, -1800, -1380, -1350, -900, -2898, -930, -1440, -1848, -1905, -1260, -2484, -1020, -1890, -1656, -2160, -1080, -3465, -1110, -1710, -2139, -2100, -1440, -2898, -1200, -2790, -2175, -1890, -1260, -3864, -1620, -1980, -2070, -2700, -1350, -4158, -1680, -2520, -2208, -2160, -1800]
def T10 : List Int := [1, -15, 90, -248, 150, 837, -1750, -120, 1539, 5040, -4650, -22320, 25730, 26250, -8370, -67520, -50040, 173745, 18938, -37200, -157500, -156240, 314340, 6696, 340225, -385950, -451980, 434000, -307950, 453600, -351478, 982080, 259470, -1681344, -262500, -381672, 1335170, -284070, 2315700, 40320, -1253100, -1464750, -3526150, 1153200, -1737450, 10561824, 2726760, -6076800, -2702301, -5103375, 2792232, -6381040, 4410990, 10145493, 1562400, 210000, 1704420, -10347120, -9163650, 2075760, 753602, 5272170, -2693250, 15712768, 3859500, -14061600, 2268890, 12409920, -17540172, -8820000, -11373300, 1389960, 27672770, -20027550, 30620250, -4696624, 8137500, 21536010, -22980982, -10128000, -50775579, -42104160, 30999090, 39060000, 16813440, 52892250, 17183610, -1249920, -48518100, 7756560, -45027500, -77956320, -31633020, 91619136, 2840700, -54800064]
def p10 : Ps := [(1, 15), (3, 3)]
theorem ok10 : okT p10 S10 T10 = true := by decide +kernel
def S11 : List Int := [-18, -54, -54, -126, -108, -162, -144, -270, -162, -324, -216, -378, -252, -432, -324, -558, -324, -486, -360, -756, -432, -648, -432, -810, -558, -756, -486, -1008, -540, -972, -576, -1134, -648, -972, -864, -1134, -684, -1080, -756, -1620, -756, -1296, -792, -1512, -972, -1296, -864, -1674, -1026, -1674, -972, -1764, -972, -1458, -1296, -2160, -1080, -1620, -1080, -2268, -1116, -1728, -1296, -2286, -1512, -1944, -1224, -2268, -1296, -2592, -1296, -2430, -1332, -2052, -1674, -2520, -1728, -2268, -1440, -3348, -1458, -2268, -1512, -3024, -1944, -2376, -1620, -3240, -1620, -2916, -2016, -3024, -1728, -2592, -2160]
def T11 : List Int := [1, -18, 135, -504, 657, 2052, -10071, 12384, 20277, -83610, 72090, 122040, -355581, 245124, 379512, -1050624, 770589, 966492, -2700081, 1724616, 2287062, -5636880, 3616164, 4471632, -11385657, 6820722, 8554194, -19963440, 12302568, 14113332, -34631226, 19737936, 23952429, -53981424, 32537214, 36379584, -86781447, 48052404, 56507004, -124776432, 73183662, 80336556, -186279480, 101594808, 117895068, -256640940, 146951496, 159126336, -363245841, 195855678, 222831945, -476893008, 271653822, 288889092, -658262079, 348604560, 393723720, -831304656, 469121058, 495285624, -1109446686, 583977348, 654559488, -1379807712, 766821069, 803465784, -1785087396, 935133192, 1038942450, -2160984960, 1200351312, 1249161264, -2777148963, 1435971852, 1583972442, -3279526344, 1811975364, 1873628928, -4113436338, 2129860080, 2342609694, -4847927778, 2646098118, 2725486920, -5965268040, 3072692232, 3359659140, -6887793312, 3773175372, 3867645996, -8468796726, 4320968256, 4709981304, -9613528560, 5237557200, 5358723696]
def p11 : Ps := [(1, 18), (3, -6)]
theorem ok11 : okT p11 S11 T11 = true := by decide +kernel
def S12 : List Int := [8, -16, 32, -32, 48, -64, 64, -64, 104, -96, 96, -128, 112, -128, 192, -128, 144, -208, 160, -192, 256, -192, 192, -256, 248, -224, 320, -256, 240, -384, 256, -256, 384, -288, 384, -416, 304, -320, 448, -384, 336, -512, 352, -384, 624, -384, 384, -512, 456, -496, 576, -448, 432, -640, 576, -512, 640, -480, 480, -768, 496, -512, 832, -512, 672, -768, 544, -576, 768, -768, 576, -832, 592, -608, 992, -640, 768, -896, 640, -768, 968, -672, 672, -1024, 864, -704, 960, -768, 720, -1248, 896, -768, 1024, -768, 960]
def T12 : List Int := [1, 8, 24, 32, 24, 48, 96, 64, 24, 104, 144, 96, 96, 112, 192, 192, 24, 144, 312, 160, 144, 256, 288, 192, 96, 248, 336, 320, 192, 240, 576, 256, 24, 384, 432, 384, 312, 304, 480, 448, 144, 336, 768, 352, 288, 624, 576, 384, 96, 456, 744, 576, 336, 432, 960, 576, 192, 640, 720, 480, 576, 496, 768, 832, 24, 672, 1152, 544, 432, 768, 1152, 576, 312, 592, 912, 992, 480, 768, 1344, 640, 144, 968, 1008, 672, 768, 864, 1056, 960, 288, 720, 1872, 896, 576, 1024, 1152, 960]
def p12 : Ps := [(1, -8), (2, 20), (4, -8)]
theorem ok12 : okT p12 S12 T12 = true := by decide +kernel
def S13 : List Int := [4, -8, 16, -16, 24, -32, 32, -32, 52, -48, 48, -64, 56, -64, 96, -64, 72, -104, 80, -96, 128, -96, 96, -128, 124, -112, 160, -128, 120, -192, 128, -128, 192, -144, 192, -208, 152, -160, 224, -192, 168, -256, 176, -192, 312, -192, 192, -256, 228, -248, 288, -224, 216, -320, 288, -256, 320, -240, 240, -384, 248, -256, 416, -256, 336, -384, 272, -288, 384, -384, 288, -416, 296, -304, 496, -320, 384, -448, 320, -384, 484, -336, 336, -512, 432, -352, 480, -384, 360, -624, 448, -384, 512, -384, 480]
def T13 : List Int := [1, 4, 4, 0, 4, 8, 0, 0, 4, 4, 8, 0, 0, 8, 0, 0, 4, 8, 4, 0, 8, 0, 0, 0, 0, 12, 8, 0, 0, 8, 0, 0, 4, 0, 8, 0, 4, 8, 0, 0, 8, 8, 0, 0, 0, 8, 0, 0, 0, 4, 12, 0, 8, 8, 0, 0, 0, 0, 8, 0, 0, 8, 0, 0, 4, 16, 0, 0, 8, 0, 0, 0, 4, 8, 8, 0, 0, 0, 0, 0, 8, 4, 8, 0, 0, 16, 0, 0, 0, 8, 8, 0, 0, 0, 0, 0]
def p13 : Ps := [(1, -4), (2, 10), (4, -4)]
theorem ok13 : okT p13 S13 T13 = true := by decide +kernel
def S14 : List Int := [4, -32, 16, -88, 24, -128, 32, -200, 52, -192, 48, -352, 56, -256, 96, -424, 72, -416, 80, -528, 128, -384, 96, -800, 124, -448, 160, -704, 120, -768, 128, -872, 192, -576, 192, -1144, 152, -640, 224, -1200, 168, -1024, 176, -1056, 312, -768, 192, -1696, 228, -992, 288, -1232, 216, -1280, 288, -1600, 320, -960, 240, -2112, 248, -1024, 416, -1768, 336, -1536, 272, -1584, 384, -1536, 288, -2600, 296, -1216, 496, -1760, 384, -1792, 320, -2544, 484, -1344, 336, -2816, 432, -1408, 480, -2400, 360, -2496, 448, -2112, 512, -1536, 480]
def T14 : List Int := [1, 4, -8, -48, 10, 224, 80, -448, -231, 40, -248, 1408, 1466, -2240, -80, 1280, -4766, -924, 1944, -480, 9600, 6944, -2704, -8704, -15525, 5864, -3984, -14080, 25498, 2240, 10816, 33792, -29760, -19064, 800, 11088, 1994, -54432, -11728, -4480, 29362, 38400, -5560, 43648, -2310, 75712, -1952, -124928, 21649, -62100, 38128, -70368, -192854, 111552, -2480, 87040, 233280, 101992, -20248, 14080, -10918, -302848, -18480, 53248, 14660, -119040, -101768, 228768, -324480, -22400, 137424, 103488, 288626, 7976, 124200, -342144, 297600, 328384, -80224, 12800, -646479, 117448, -52712, -460800, -47660, 155680, -203984, -269824, 310738, -9240, 117280, 475904, 1297920, 54656, 19440, 57344]
def p14 : Ps := [(1, -4), (2, 22), (4, -4)]
theorem ok14 : okT p14 S14 T14 = true := by decide +kernel
def S15 : List Int := [0, -24, 0, -72, 0, -96, 0, -168, 0, -144, 0, -288, 0, -192, 0, -360, 0, -312, 0, -432, 0, -288, 0, -672, 0, -336, 0, -576, 0, -576, 0, -744, 0, -432, 0, -936, 0, -480, 0, -1008, 0, -768, 0, -864, 0, -576, 0, -1440, 0, -744, 0, -1008, 0, -960, 0, -1344, 0, -720, 0, -1728, 0, -768, 0, -1512, 0, -1152, 0, -1296, 0, -1152, 0, -2184, 0, -912, 0, -1440, 0, -1344, 0, -2160, 0, -1008, 0, -2304, 0, -1056, 0, -2016, 0, -1872, 0, -1728, 0, -1152, 0]
def T15 : List Int := [1, 0, -12, 0, 54, 0, -88, 0, -99, 0, 540, 0, -418, 0, -648, 0, 594, 0, 836, 0, 1056, 0, -4104, 0, -209, 0, 4104, 0, -594, 0, 4256, 0, -6480, 0, -4752, 0, -298, 0, 5016, 0, 17226, 0, -12100, 0, -5346, 0, -1296, 0, -9063, 0, -7128, 0, 19494, 0, 29160, 0, -10032, 0, -7668, 0, -34738, 0, 8712, 0, -22572, 0, 21812, 0, 49248, 0, -46872, 0, 67562, 0, 2508, 0, -47520, 0, -76912, 0, -25191, 0, 67716, 0, 32076, 0, 7128, 0, 29754, 0, 36784, 0, -51072, 0, 45144, 0]
def p15 : Ps := [(2, 12)]
theorem ok15 : okT p15 S15 T15 = true := by decide +kernel
def S16 : List Int := [0, -48, 0, -144, 0, -192, 0, -336, 0, -288, 0, -576, 0, -384, 0, -720, 0, -624, 0, -864, 0, -576, 0, -1344, 0, -672, 0, -1152, 0, -1152, 0, -1488, 0, -864, 0, -1872, 0, -960, 0, -2016, 0, -1536, 0, -1728, 0, -1152, 0, -2880, 0, -1488, 0, -2016, 0, -1920, 0, -2688, 0, -1440, 0, -3456, 0, -1536, 0, -3024, 0, -2304, 0, -2592, 0, -2304, 0, -4368, 0, -1824, 0, -2880, 0, -2688, 0, -4320, 0, -2016, 0, -4608, 0, -2112, 0, -4032, 0, -3744, 0, -3456, 0, -2304, 0]
def T16 : List Int := [1, 0, -24, 0, 252, 0, -1472, 0, 4830, 0, -6048, 0, -16744, 0, 84480, 0, -113643, 0, -115920, 0, 534612, 0, -370944, 0, -577738, 0, 401856, 0, 1217160, 0, 987136, 0, -6905934, 0, 2727432, 0, 10661420, 0, -7109760, 0, -4219488, 0, -12830688, 0, 18643272, 0, 21288960, 0, -25499225, 0, 13865712, 0, -73279080, 0, 24647168, 0, 128406630, 0, -29211840, 0, -52843168, 0, -196706304, 0, 134722224, 0, 165742416, 0, -80873520, 0, 167282496, 0, -182213314, 0, -255874080, 0, -145589976, 0, 408038400, 0, 308120442, 0, 101267712, 0, -17125708, 0, -786948864, 0, -548895690, 0, -447438528, 0, 2687348496, 0, 248758272, 0]
def p16 : Ps := [(2, 24)]
theorem ok16 : okT p16 S16 T16 = true := by decide +kernel
def S17 : List Int := [-4, -12, -16, -28, -44, -48, -32, -60, -52, -132, -48, -112, -56, -96, -176, -124, -72, -156, -80, -308, -128, -144, -96, -240, -244, -168, -160, -224, -120, -528, -128, -252, -192, -216, -352, -364, -152, -240, -224, -660, -168, -384, -176, -336, -572, -288, -192, -496, -228, -732, -288, -392, -216, -480, -528, -480, -320, -360, -240, -1232, -248, -384, -416, -508, -616, -576, -272, -504, -384, -1056, -288, -780, -296, -456, -976, -560, -384, -672, -320, -1364, -484, -504, -336, -896, -792, -528, -480, -720, -360, -1716, -448, -672, -512, -576, -880]
def T17 : List Int := [1, -4, 2, 8, -5, -8, 6, 0, -23, 20, 32, 16, -38, -24, -10, -64, 26, 92, 100, -40, 12, -128, -78, 0, 25, 152, -100, 48, -50, 40, -108, 256, 64, -104, -30, -184, 266, -400, -76, 0, 22, -48, 442, 256, 115, 312, -514, -128, -307, -100, 52, -304, 2, 400, -160, 0, 200, 200, 500, -80, -518, 432, -138, -512, 190, -256, 126, 208, -156, 120, 412, 0, -878, -1064, 50, 800, 192, 304, 600, 320, 421, -88, 282, 96, -130, -1768, -100, 0, -150, -460, -228, -624, -216, 2056, -500, 512]
def p17 : Ps := [(1, 4), (5, 4)]
theorem ok17 : okT p17 S17 T17 = true := by decide +kernel
def S18 : List Int := [-8, -24, -32, -56, -88, -96, -64, -120, -104, -264, -96, -224, -112, -192, -352, -248, -144, -312, -160, -616, -256, -288, -192, -480, -488, -336, -320, -448, -240, -1056, -256, -504, -384, -432, -704, -728, -304, -480, -448, -1320, -336, -768, -352, -672, -1144, -576, -384, -992, -456, -1464, -576, -784, -432, -960, -1056, -960, -640, -720, -480, -2464, -496, -768, -832, -1016, -1232, -1152, -544, -1008, -768, -2112, -576, -1560, -592, -912, -1952, -1120, -768, -1344, -640, -2728, -968, -1008, -672, -1792, -1584, -1056, -960, -1440, -720, -3432, -896, -1344, -1024, -1152, -1760]
def T18 : List Int := [1, -8, 20, 0, -70, 56, 120, -160, -125, 400, -184, -608, 510, 1000, -640, -1184, 1177, -320, -2500, 960, 6272, -408, -4560, 0, -4310, -6320, 1688, 19520, 8750, -2800, -11584, -14176, -25510, -7000, 47860, 25536, 16180, -20240, -15000, -56800, -24948, 43192, 64640, 20000, -66150, 45496, -87808, -5600, 15625, 97520, 6216, -53408, 39980, -50000, 34320, -158240, 159070, -227360, 23000, 160000, 125412, 163512, -72960, 76000, -362240, -79384, -330232, 492480, -63750, -70000, 218040, -226208, 193850, -125000, 372240, 107232, 184964, -472480, 80000, -538720, -435818, 490392, -644880, 148000, 643570, 484240, 560640, 317760, -147125, 129520, -1260984, -1255296, 402230, 40000, 196480, 561696]
def p18 : Ps := [(1, 8), (5, 8)]
theorem ok18 : okT p18 S18 T18 = true := by decide +kernel
def S19 : List Int := [-2, -10, -14, -26, -12, -70, -16, -58, -50, -60, -24, -182, -28, -80, -84, -122, -36, -250, -40, -156, -112, -120, -48, -406, -62, -140, -158, -208, -60, -420, -64, -250, -168, -180, -96, -650, -76, -200, -196, -348, -84, -560, -88, -312, -300, -240, -96, -854, -114, -310, -252, -364, -108, -790, -144, -464, -280, -300, -120, -1092, -124, -320, -400, -506, -168, -840, -136, -468, -336, -480, -144, -1450, -148, -380, -434, -520, -192, -980, -160, -732, -482, -420, -168, -1456, -216, -440, -420, -696, -180, -1500, -224, -624, -448, -480, -240]
def T19 : List Int := [1, -2, -3, 4, 6, 6, -16, -8, 9, -12, 12, -12, 38, 32, -18, 16, -126, -18, 20, 24, 48, -24, 168, 24, -89, -76, -27, -64, 30, 36, -88, -32, -36, 252, -96, 36, 254, -40, -114, -48, 42, -96, -52, 48, 54, -336, -96, -48, -87, 178, 378, 152, 198, 54, 72, 128, -60, -60, -660, -72, -538, 176, -144, 64, 228, 72, 884, -504, -504, 192, 792, -72, 218, -508, 267, 80, -192, 228, -520, 96, 81, -84, -492, 192, -756, 104, -90, -96, 810, -108, -608, 672, 264, 192, 120, 96]
def p19 : Ps := [(1, 2), (2, 2), (3, 2), (6, 2)]
theorem ok19 : okT p19 S19 T19 = true := by decide +kernel
def S20 : List Int := [-4, -20, -28, -52, -24, -140, -32, -116, -100, -120, -48, -364, -56, -160, -168, -244, -72, -500, -80, -312, -224, -240, -96, -812, -124, -280, -316, -416, -120, -840, -128, -500, -336, -360, -192, -1300, -152, -400, -392, -696, -168, -1120, -176, -624, -600, -480, -192, -1708, -228, -620, -504, -728, -216, -1580, -288, -928, -560, -600, -240, -2184, -248, -640, -800, -1012, -336, -1680, -272, -936, -672, -960, -288, -2900, -296, -760, -868, -1040, -384, -1960, -320, -1464, -964, -840, -336, -2912, -432, -880, -840, -1392, -360, -3000, -448, -1248, -896, -960, -480]
def T20 : List Int := [1, -4, -2, 20, 5, -36, -76, 60, 230, -68, -202, -216, 224, 300, -712, 456, 249, 1044, 500, -3092, -404, -2800, 4100, 3600, -3370, 6552, -2176, 4636, -12930, -16812, 9552, -2532, 24738, 6280, 2382, 3600, -16972, 304, -39880, -21352, 26464, 43884, -2456, 1980, 7112, 3688, 2840, -34272, 45175, -71136, -3628, 35532, -72099, -4680, 23296, 131572, -578, -44476, 40260, -17568, -142312, 34716, 115680, -56600, 45852, -12708, -27588, -199248, -75200, 232512, -86124, 12960, 239726, 38900, 84056, -34960, 135214, -111564, -195760, 26136, -458902, -334988, -201344, 471960, 334700, 285108, 106864, 114096, 268470, -35928, -148624, -456284, 553792, -391640, -126832, -583632]
def p20 : Ps := [(1, 4), (2, 4), (3, 4), (6, 4)]
theorem ok20 : okT p20 S20 T20 = true := by decide +kernel
def S21 : List Int := [-3, -9, -12, -21, -18, -36, -45, -45, -39, -54, -36, -84, -42, -135, -72, -93, -54, -117, -60, -126, -180, -108, -72, -180, -93, -126, -120, -315, -90, -216, -96, -189, -144, -162, -270, -273, -114, -180, -168, -270, -126, -540, -132, -252, -234, -216, -144, -372, -339, -279, -216, -294, -162, -360, -216, -675, -240, -270, -180, -504, -186, -288, -585, -381, -252, -432, -204, -378, -288, -810, -216, -585, -222, -342, -372, -420, -540, -504, -240, -558, -363, -378, -252, -1260, -324, -396, -360, -540, -270, -702, -630, -504, -384, -432, -360]
def T21 : List Int := [1, -3, 0, 5, 0, 0, -7, -3, 9, 0, -6, 0, 0, 21, 0, -11, 0, -27, 0, 0, 0, 18, 18, 0, 25, 0, 0, -35, -54, 0, 0, 45, 0, 0, 0, 45, -38, 0, 0, 0, 0, 0, 58, -30, 0, -54, 0, 0, 49, -75, 0, 0, -6, 0, 0, 21, 0, 162, 0, 0, 0, 0, -63, -91, 0, 0, -118, 0, 0, 0, 114, -27, 0, 114, 0, 0, 42, 0, -94, 0, 81, 0, 0, 0, 0, -174, 0, 18, 0, 0, 0, 90, 0, 0, 0, 0]
def p21 : Ps := [(1, 3), (7, 3)]
theorem ok21 : okT p21 S21 T21 = true := by decide +kernel
def S22 : List Int := [-6, -18, -24, -42, -36, -72, -90, -90, -78, -108, -72, -168, -84, -270, -144, -186, -108, -234, -120, -252, -360, -216, -144, -360, -186, -252, -240, -630, -180, -432, -192, -378, -288, -324, -540, -546, -228, -360, -336, -540, -252, -1080, -264, -504, -468, -432, -288, -744, -678, -558, -432, -588, -324, -720, -432, -1350, -480, -540, -360, -1008, -372, -576, -1170, -762, -504, -864, -408, -756, -576, -1620, -432, -1170, -444, -684, -744, -840, -1080, -1008, -480, -1116, -726, -756, -504, -2520, -648, -792, -720, -1080, -540, -1404, -1260, -1008, -768, -864, -720]
def T22 : List Int := [1, -6, 9, 10, -30, 0, 11, 36, 36, -124, -42, 126, 49, 24, -243, -76, 441, -18, -56, -294, -360, 568, -6, -180, 392, -324, 441, 252, -720, 540, -1389, -816, 558, 490, 2601, 540, -1714, 672, -144, -1092, -1470, -4788, 1472, 2466, 3600, 3748, 390, 0, -2429, -5172, -1260, -208, -4644, 3096, 539, 9852, 4482, -2050, -7392, -4806, 2420, 1764, -1539, -2884, 6336, -1944, 7910, -7968, 1764, -4200, 2907, -5256, 5546, 10254, -14742, -6076, -7224, 14904, 2752, 11340, -7938, 15750, -2058, 9684, -23056, -20844, 2736, -22208, 13716, 6174, 10816, -1560, 22716, -16168, 22554, 8820]
def p22 : Ps := [(1, 6), (7, 6)]
theorem ok22 : okT p22 S22 T22 = true := by decide +kernel
def S23 : List Int := [-2, -8, -8, -24, -12, -32, -16, -72, -26, -48, -24, -96, -28, -64, -48, -168, -36, -104, -40, -144, -64, -96, -48, -288, -62, -112, -80, -192, -60, -192, -64, -360, -96, -144, -96, -312, -76, -160, -112, -432, -84, -256, -88, -288, -156, -192, -96, -672, -114, -248, -144, -336, -108, -320, -144, -576, -160, -240, -120, -576, -124, -256, -208, -744, -168, -384, -136, -432, -192, -384, -144, -936, -148, -304, -248, -480, -192, -448, -160, -1008, -242, -336, -168, -768, -216, -352, -240, -864, -180, -624, -224, -576, -256, -384, -240]
def T23 : List Int := [1, -2, -2, 4, 0, 4, 0, -8, -5, 0, 14, -8, 0, 0, 0, 16, 2, 10, -34, 0, 0, -28, 0, 16, 25, 0, 28, 0, 0, 0, 0, -32, -28, -4, 0, -20, 0, 68, 0, 0, -46, 0, 14, 56, 0, 0, 0, -32, 49, -50, -4, 0, 0, -56, 0, 0, 68, 0, -82, 0, 0, 0, 0, 64, 0, 56, 62, 8, 0, 0, 0, 40, -142, 0, -50, -136, 0, 0, 0, 0, -11, 92, 158, 0, 0, -28, 0, -112, 146, 0, 0, 0, 0, 0, 0, 64]
def p23 : Ps := [(1, 2), (2, 1), (4, 1), (8, 2)]
theorem ok23 : okT p23 S23 T23 = true := by decide +kernel
def S24 : List Int := [-4, -16, -16, -48, -24, -64, -32, -144, -52, -96, -48, -192, -56, -128, -96, -336, -72, -208, -80, -288, -128, -192, -96, -576, -124, -224, -160, -384, -120, -384, -128, -720, -192, -288, -192, -624, -152, -320, -224, -864, -168, -512, -176, -576, -312, -384, -192, -1344, -228, -496, -288, -672, -216, -640, -288, -1152, -320, -480, -240, -1152, -248, -512, -416, -1488, -336, -768, -272, -864, -384, -768, -288, -1872, -296, -608, -496, -960, -384, -896, -320, -2016, -484, -672, -336, -1536, -432, -704, -480, -1728, -360, -1248, -448, -1152, -512, -768, -480]
def T24 : List Int := [1, -4, 0, 16, -12, -8, 0, -32, 54, 52, 0, -112, -88, 104, 0, 224, -99, -276, 0, 192, 540, -536, 0, -320, -418, 728, 0, 336, -648, 1248, 0, -1120, 594, -816, 0, -1328, 836, -568, 0, 3264, 1056, -364, 0, 784, -4104, -3120, 0, 896, -209, 2104, 0, 976, 4104, 4792, 0, -8864, -594, -3068, 0, -2032, 4256, 1560, 0, 1600, -6480, 4668, 0, 5696, -4752, -1864, 0, 9056, -298, -5564, 0, -5568, 5016, -15184, 0, 5920, 17226, 44, 0, -7072, -12100, 9096, 0, -5280, -5346, 6032, 0, 7936, -1296, 33800, 0, -21408]
def p24 : Ps := [(1, 4), (2, 2), (4, 2), (8, 4)]
theorem ok24 : okT p24 S24 T24 = true := by decide +kernel
def S25 : List Int := [-2, -6, -8, -14, -12, -24, -16, -30, -26, -36, -46, -56, -28, -48, -48, -62, -36, -78, -40, -84, -64, -138, -48, -120, -62, -84, -80, -112, -60, -144, -64, -126, -184, -108, -96, -182, -76, -120, -112, -180, -84, -192, -88, -322, -156, -144, -96, -248, -114, -186, -144, -196, -108, -240, -276, -240, -160, -180, -120, -336, -124, -192, -208, -254, -168, -552, -136, -252, -192, -288, -144, -390, -148, -228, -248, -280, -368, -336, -160, -372, -242, -252, -168, -448, -216, -264, -240, -690, -180, -468, -224, -336, -256, -288, -240]
def T25 : List Int := [1, -2, -1, 2, 1, 2, -2, 0, -2, -2, 1, -2, 4, 4, -1, -4, -2, 4, 0, 2, 2, -2, -1, 0, -4, -8, 5, -4, 0, 2, 7, 8, -1, 4, -2, -4, 3, 0, -4, 0, -8, -4, -6, 2, -2, 2, 8, 4, -3, 8, 2, 8, -6, -10, 1, 0, 0, 0, 5, -2, 12, -14, 4, -8, 4, 2, -7, -4, 1, 4, -3, 0, 4, -6, 4, 0, -2, 8, -10, -4, 1, 16, -6, 4, -2, 12, 0, 0, 15, 4, -8, -2, -7, -16, 0, -8]
def p25 : Ps := [(1, 2), (11, 2)]
theorem ok25 : okT p25 S25 T25 = true := by decide +kernel
def S26 : List Int := [-4, -12, -16, -28, -24, -48, -32, -60, -52, -72, -92, -112, -56, -96, -96, -124, -72, -156, -80, -168, -128, -276, -96, -240, -124, -168, -160, -224, -120, -288, -128, -252, -368, -216, -192, -364, -152, -240, -224, -360, -168, -384, -176, -644, -312, -288, -192, -496, -228, -372, -288, -392, -216, -480, -552, -480, -320, -360, -240, -672, -248, -384, -416, -508, -336, -1104, -272, -504, -384, -576, -288, -780, -296, -456, -496, -560, -736, -672, -320, -744, -484, -504, -336, -896, -432, -528, -480, -1380, -360, -936, -448, -672, -512, -576, -480]
def T26 : List Int := [1, -4, 2, 8, -5, -4, -10, 8, 9, 0, 14, -20, 6, -12, -32, 12, 30, 60, -30, -36, -11, -36, 34, 16, 20, 12, 36, -56, -109, 28, 44, 44, -50, 76, 12, -8, 96, -140, -58, -4, 2, -16, -22, 184, -85, -120, 48, -80, 84, 236, 160, -56, -79, -88, -76, -204, 16, -132, -146, 184, 11, -8, 248, 300, 55, -20, -172, 232, -10, 76, -268, -468, 19, -288, -168, 44, 60, 656, -64, 136, 264, 120, 220, -484, -46, -232, 110, -328, 398, -360, 46, 40, -256, 348, 164, 144]
def p26 : Ps := [(1, 4), (11, 4)]
theorem ok26 : okT p26 S26 T26 = true := by decide +kernel
def S27 : List Int := [-1, -5, -4, -13, -6, -20, -15, -29, -13, -30, -12, -52, -14, -75, -24, -61, -18, -65, -20, -78, -60, -60, -24, -116, -31, -70, -40, -195, -30, -120, -32, -125, -48, -90, -90, -169, -38, -100, -56, -174, -42, -300, -44, -156, -78, -120, -48, -244, -113, -155, -72, -182, -54, -200, -72, -435, -80, -150, -60, -312, -62, -160, -195, -253, -84, -240, -68, -234, -96, -450, -72, -377, -74, -190, -124, -260, -180, -280, -80, -366, -121, -210, -84, -780, -108, -220, -120, -348, -90, -390, -210, -312, -128, -240, -120]
def T27 : List Int := [1, -1, -2, 1, 0, 2, 1, -1, 1, 0, 0, -2, -4, -1, 0, 1, 6, -1, 2, 0, -2, 0, 0, 2, -5, 4, 4, 1, -6, 0, -4, -1, 0, -6, 0, 1, 2, -2, 8, 0, 6, 2, 8, 0, 0, 0, -12, -2, 1, 5, -12, -4, 6, -4, 0, -1, -4, 6, -6, 0, 8, 4, 1, 1, 0, 0, -4, 6, 0, 0, 0, -1, 2, -2, 10, 2, 0, -8, 8, 0, -11, -6, -6, -2, 0, -8, 12, 0, -6, 0, -4, 0, 8, 12, 0, 2]
def p27 : Ps := [(1, 1), (2, 1), (7, 1), (14, 1)]
theorem ok27 : okT p27 S27 T27 = true := by decide +kernel
def S28 : List Int := [-2, -10, -8, -26, -12, -40, -30, -58, -26, -60, -24, -104, -28, -150, -48, -122, -36, -130, -40, -156, -120, -120, -48, -232, -62, -140, -80, -390, -60, -240, -64, -250, -96, -180, -180, -338, -76, -200, -112, -348, -84, -600, -88, -312, -156, -240, -96, -488, -226, -310, -144, -364, -108, -400, -144, -870, -160, -300, -120, -624, -124, -320, -390, -506, -168, -480, -136, -468, -192, -900, -144, -754, -148, -380, -248, -520, -360, -560, -160, -732, -242, -420, -168, -1560, -216, -440, -240, -696, -180, -780, -420, -624, -256, -480, -240]
def T28 : List Int := [1, -2, -3, 6, 2, 0, -1, -12, 4, 4, -2, 2, -7, 16, 17, -4, 1, -38, -24, 14, -16, 32, 18, 12, 24, 4, 21, -60, -64, -12, 7, 48, 62, -42, 21, 20, -34, -40, -64, 4, -14, 108, 40, 30, -16, 60, -66, 0, 107, -140, -76, -96, 92, -104, 7, -84, 10, 202, 160, -58, 36, 84, -175, 140, -80, 192, -178, 160, -28, -232, 119, -248, -286, -166, 178, -28, 24, 40, 368, 156, 174, -46, 14, 380, -88, -260, -24, -16, -428, -14, -16, -120, 204, -128, 50, -212]
def p28 : Ps := [(1, 2), (2, 2), (7, 2), (14, 2)]
theorem ok28 : okT p28 S28 T28 = true := by decide +kernel
def S29 : List Int := [-1, -3, -7, -7, -11, -21, -8, -15, -25, -33, -12, -49, -14, -24, -77, -31, -18, -75, -20, -77, -56, -36, -24, -105, -61, -42, -79, -56, -30, -231, -32, -63, -84, -54, -88, -175, -38, -60, -98, -165, -42, -168, -44, -84, -275, -72, -48, -217, -57, -183, -126, -98, -54, -237, -132, -120, -140, -90, -60, -539, -62, -96, -200, -127, -154, -252, -68, -126, -168, -264, -72, -375, -74, -114, -427, -140, -96, -294, -80, -341, -241, -126, -84, -392, -198, -132, -210, -180, -90, -825, -112, -168, -224, -144, -220]
def T29 : List Int := [1, -1, -1, -1, 1, 1, 0, 3, 1, -1, -4, 1, -2, 0, -1, -1, 2, -1, 4, -1, 0, 4, 0, -3, 1, 2, -1, 0, -2, 1, 0, -5, 4, -2, 0, -1, -10, -4, 2, 3, 10, 0, 4, 4, 1, 0, 8, 1, -7, -1, -2, 2, -10, 1, -4, 0, -4, 2, -4, 1, -2, 0, 0, 7, -2, -4, 12, -2, 0, 0, -8, 3, 10, 10, -1, -4, 0, -2, 0, -1, 1, -10, 12, 0, 2, -4, 2, -12, -6, -1, 0, 0, 0, -8, 4, 5]
def p29 : Ps := [(1, 1), (3, 1), (5, 1), (15, 1)]
theorem ok29 : okT p29 S29 T29 = true := by decide +kernel
def S30 : List Int := [-2, -6, -14, -14, -22, -42, -16, -30, -50, -66, -24, -98, -28, -48, -154, -62, -36, -150, -40, -154, -112, -72, -48, -210, -122, -84, -158, -112, -60, -462, -64, -126, -168, -108, -176, -350, -76, -120, -196, -330, -84, -336, -88, -168, -550, -144, -96, -434, -114, -366, -252, -196, -108, -474, -264, -240, -280, -180, -120, -1078, -124, -192, -400, -254, -308, -504, -136, -252, -336, -528, -144, -750, -148, -228, -854, -280, -192, -588, -160, -682, -482, -252, -168, -784, -396, -264, -420, -360, -180, -1650, -224, -336, -448, -288, -440]
def T30 : List Int := [1, -2, -1, 0, 5, 2, -3, 2, -5, -8, -13, 16, 12, 10, -1, 4, 1, -32, 5, -18, 8, -6, 9, 0, 10, 40, -4, -4, -25, 44, -43, -40, 38, -10, 7, -48, 4, 28, 15, 44, 12, -50, -40, -10, -96, 70, 131, 52, 25, -64, 54, 64, -187, 40, -60, -104, -62, -68, 65, 28, 24, 30, 135, -80, 232, -46, -22, 174, -60, -100, -27, 64, 122, -50, -132, -96, -334, -160, 5, 80, 154, -18, -84, -20, 292, 112, 72, 168, -5, 244, 72, 84, -304, 160, -383, -96]
def p30 : Ps := [(1, 2), (3, 2), (5, 2), (15, 2)]
theorem ok30 : okT p30 S30 T30 = true := by decide +kernel
def S31 : List Int := [0, 0, 0, -24, 0, 0, 0, -72, 0, 0, 0, -96, 0, 0, 0, -168, 0, 0, 0, -144, 0, 0, 0, -288, 0, 0, 0, -192, 0, 0, 0, -360, 0, 0, 0, -312, 0, 0, 0, -432, 0, 0, 0, -288, 0, 0, 0, -672, 0, 0, 0, -336, 0, 0, 0, -576, 0, 0, 0, -576, 0, 0, 0, -744, 0, 0, 0, -432, 0, 0, 0, -936, 0, 0, 0, -480, 0, 0, 0, -1008, 0, 0, 0, -768, 0, 0, 0, -864, 0, 0, 0, -576, 0, 0, 0]
def T31 : List Int := [1, 0, 0, 0, -6, 0, 0, 0, 9, 0, 0, 0, 10, 0, 0, 0, -30, 0, 0, 0, 0, 0, 0, 0, 11, 0, 0, 0, 42, 0, 0, 0, 0, 0, 0, 0, -70, 0, 0, 0, 18, 0, 0, 0, -54, 0, 0, 0, 49, 0, 0, 0, 90, 0, 0, 0, 0, 0, 0, 0, -22, 0, 0, 0, -60, 0, 0, 0, 0, 0, 0, 0, -110, 0, 0, 0, 0, 0, 0, 0, 81, 0, 0, 0, 180, 0, 0, 0, -78, 0, 0, 0, 0, 0, 0, 0]
def p31 : Ps := [(4, 6)]
theorem ok31 : okT p31 S31 T31 = true := by decide +kernel
def S32 : List Int := [0, 0, 0, -48, 0, 0, 0, -144, 0, 0, 0, -192, 0, 0, 0, -336, 0, 0, 0, -288, 0, 0, 0, -576, 0, 0, 0, -384, 0, 0, 0, -720, 0, 0, 0, -624, 0, 0, 0, -864, 0, 0, 0, -576, 0, 0, 0, -1344, 0, 0, 0, -672, 0, 0, 0, -1152, 0, 0, 0, -1152, 0, 0, 0, -1488, 0, 0, 0, -864, 0, 0, 0, -1872, 0, 0, 0, -960, 0, 0, 0, -2016, 0, 0, 0, -1536, 0, 0, 0, -1728, 0, 0, 0, -1152, 0, 0, 0]
def T32 : List Int := [1, 0, 0, 0, -12, 0, 0, 0, 54, 0, 0, 0, -88, 0, 0, 0, -99, 0, 0, 0, 540, 0, 0, 0, -418, 0, 0, 0, -648, 0, 0, 0, 594, 0, 0, 0, 836, 0, 0, 0, 1056, 0, 0, 0, -4104, 0, 0, 0, -209, 0, 0, 0, 4104, 0, 0, 0, -594, 0, 0, 0, 4256, 0, 0, 0, -6480, 0, 0, 0, -4752, 0, 0, 0, -298, 0, 0, 0, 5016, 0, 0, 0, 17226, 0, 0, 0, -12100, 0, 0, 0, -5346, 0, 0, 0, -1296, 0, 0, 0]
def p32 : Ps := [(4, 12)]
theorem ok32 : okT p32 S32 T32 = true := by decide +kernel
def S33 : List Int := [0, -4, 0, -12, 0, -16, 0, -28, 0, -44, 0, -48, 0, -32, 0, -60, 0, -52, 0, -132, 0, -48, 0, -112, 0, -56, 0, -96, 0, -176, 0, -124, 0, -72, 0, -156, 0, -80, 0, -308, 0, -128, 0, -144, 0, -96, 0, -240, 0, -244, 0, -168, 0, -160, 0, -224, 0, -120, 0, -528, 0, -128, 0, -252, 0, -192, 0, -216, 0, -352, 0, -364, 0, -152, 0, -240, 0, -224, 0, -660, 0, -168, 0, -384, 0, -176, 0, -336, 0, -572, 0, -288, 0, -192, 0]
def T33 : List Int := [1, 0, -2, 0, -1, 0, 2, 0, 1, 0, 0, 0, 2, 0, 2, 0, -6, 0, -4, 0, -4, 0, 6, 0, 1, 0, 4, 0, 6, 0, -4, 0, 0, 0, -2, 0, 2, 0, -4, 0, 6, 0, -10, 0, -1, 0, -6, 0, -3, 0, 12, 0, -6, 0, 0, 0, 8, 0, 12, 0, 2, 0, 2, 0, -2, 0, 2, 0, -12, 0, -12, 0, 2, 0, -2, 0, 0, 0, 8, 0, -11, 0, 6, 0, 6, 0, -12, 0, -6, 0, 4, 0, 8, 0, 4, 0]
def p33 : Ps := [(2, 2), (10, 2)]
theorem ok33 : okT p33 S33 T33 = true := by decide +kernel
def S34 : List Int := [0, -8, 0, -24, 0, -32, 0, -56, 0, -88, 0, -96, 0, -64, 0, -120, 0, -104, 0, -264, 0, -96, 0, -224, 0, -112, 0, -192, 0, -352, 0, -248, 0, -144, 0, -312, 0, -160, 0, -616, 0, -256, 0, -288, 0, -192, 0, -480, 0, -488, 0, -336, 0, -320, 0, -448, 0, -240, 0, -1056, 0, -256, 0, -504, 0, -384, 0, -432, 0, -704, 0, -728, 0, -304, 0, -480, 0, -448, 0, -1320, 0, -336, 0, -768, 0, -352, 0, -672, 0, -1144, 0, -576, 0, -384, 0]
def T34 : List Int := [1, 0, -4, 0, 2, 0, 8, 0, -5, 0, -8, 0, 6, 0, 0, 0, -23, 0, 20, 0, 32, 0, 16, 0, -38, 0, -24, 0, -10, 0, -64, 0, 26, 0, 92, 0, 100, 0, -40, 0, 12, 0, -128, 0, -78, 0, 0, 0, 25, 0, 152, 0, -100, 0, 48, 0, -50, 0, 40, 0, -108, 0, 256, 0, 64, 0, -104, 0, -30, 0, -184, 0, 266, 0, -400, 0, -76, 0, 0, 0, 22, 0, -48, 0, 442, 0, 256, 0, 115, 0, 312, 0, -514, 0, -128, 0]
def p34 : Ps := [(2, 4), (10, 4)]
theorem ok34 : okT p34 S34 T34 = true := by decide +kernel
def S35 : List Int := [-1, -3, -4, -7, -6, -12, -8, -15, -13, -18, -12, -28, -14, -24, -24, -31, -18, -39, -20, -42, -32, -36, -47, -60, -31, -42, -40, -56, -30, -72, -32, -63, -48, -54, -48, -91, -38, -60, -56, -90, -42, -96, -44, -84, -78, -141, -48, -124, -57, -93, -72, -98, -54, -120, -72, -120, -80, -90, -60, -168, -62, -96, -104, -127, -84, -144, -68, -126, -188, -144, -72, -195, -74, -114, -124, -140, -96, -168, -80, -186, -121, -126, -84, -224, -108, -132, -120, -180, -90, -234, -112, -329, -128, -144, -120]
def T35 : List Int := [1, -1, -1, 0, 0, 1, 0, 1, 0, 0, 0, 0, -1, 0, 0, -1, 0, 0, 0, 0, 0, 0, 1, -1, 1, 1, 1, 0, -1, 0, -1, 0, 0, 0, 0, 0, 0, 0, 1, 0, -1, 0, 0, 0, 0, -1, -1, 1, 1, -1, 0, 0, 0, -1, 0, 0, 0, 1, 2, 0, 0, 1, 0, 1, 0, 0, 0, 0, -1, 0, -1, 0, -1, 0, -1, 0, 0, -1, 0, 0, -1, 1, 0, 0, 0, 0, 1, 0, 0, 0, 0, 0, 1, 1, 0, 0]
def p35 : Ps := [(1, 1), (23, 1)]
theorem ok35 : okT p35 S35 T35 = true := by decide +kernel
def S36 : List Int := [-2, -6, -8, -14, -12, -24, -16, -30, -26, -36, -24, -56, -28, -48, -48, -62, -36, -78, -40, -84, -64, -72, -94, -120, -62, -84, -80, -112, -60, -144, -64, -126, -96, -108, -96, -182, -76, -120, -112, -180, -84, -192, -88, -168, -156, -282, -96, -248, -114, -186, -144, -196, -108, -240, -144, -240, -160, -180, -120, -336, -124, -192, -208, -254, -168, -288, -136, -252, -376, -288, -144, -390, -148, -228, -248, -280, -192, -336, -160, -372, -242, -252, -168, -448, -216, -264, -240, -360, -180, -468, -224, -658, -256, -288, -240]
def T36 : List Int := [1, -2, -1, 2, 1, 2, -2, 0, -2, -2, 1, 0, 0, 2, 3, -2, 2, 0, 0, -2, -2, 0, 0, -4, 3, 2, -2, 0, -6, 6, 1, 6, 4, 0, -2, -2, -2, -6, 2, -4, -4, 0, 4, 4, 1, -2, 3, 4, 3, -6, -3, 4, -1, -4, -2, 4, -3, 4, 4, -8, -3, 4, -2, 6, 2, 2, -2, -2, 4, 2, -4, -4, 2, -2, 2, -8, 3, -8, -6, 0, 3, 2, 6, 8, 0, 6, 6, -4, -4, 6, -1, 0, 1, -4, -9, 6]
def p36 : Ps := [(1, 2), (23, 2)]
theorem ok36 : okT p36 S36 T36 = true := by decide +kernel
end K81

noncomputable section
namespace K81
open PySem PySem.Spec PyProof.Rows L2 EP FL PSr
theorem gt_cons (a : Int) (T : List Int) (n : Nat) : gt (a :: T) (n + 1) = gt T n := rfl
theorem dot_sm : ∀ (R S : List Int), R.length ≤ S.length → dotL S R = sm R.length fun i => gt S i * gt R i
  | [], S, _ => by cases S <;> rfl
  | a :: R, [], h => by simp at h
  | a :: R, s :: S, h => by
    have ih := dot_sm R S (by simpa using h)
    show s * a + dotL S R = _
    rw [ih, List.length_cons, PSr.sm_head]
    rfl
theorem go_rule (S : List Int) : ∀ (r R : List Int) (k : Nat), R.length = k → goL S r R k = true → ∀ j, j < r.length → ((k + j : Nat) : Int) * gt (R.reverse ++ r) (k + j) = dotL S ((R.reverse ++ r).take (k + j)).reverse
  | [], R, k, _, _, j, h => by simp at h
  | a :: r, R, k, hk, hg, j, h => by
    have hg : (decide ((k : Int) * a = dotL S R) && goL S r (a :: R) (k + 1)) = true := hg
    rw [Bool.and_eq_true] at hg
    obtain ⟨g1, g2⟩ := hg
    have g1 := of_decide_eq_true g1
    have hr : R.reverse.length = k := by rw [List.length_reverse]; exact hk
    cases j with
    | zero =>
      have e1 : gt (R.reverse ++ a :: r) k = a := by
        unfold gt
        rw [List.getD_eq_getElem?_getD, List.getElem?_append_right (by omega), hr, Nat.sub_self]
        rfl
      have e2 : (R.reverse ++ a :: r).take k = R.reverse := by
        rw [← hr, List.take_left']
        rfl
      rw [Nat.add_zero, e1, e2, List.reverse_reverse]
      exact g1
    | succ j =>
      have ih := go_rule S r (a :: R) (k + 1) (by rw [List.length_cons]; omega) g2 j (by rw [List.length_cons] at h; omega)
      have e : (a :: R).reverse ++ r = R.reverse ++ a :: r := by simp
      rw [e] at ih
      rw [show k + (j + 1) = k + 1 + j by omega]
      exact ih
theorem gt_rev {T : List Int} {n i : Nat} (h : n ≤ T.length) (hi : i < n) : gt (T.take n).reverse i = gt T (n - 1 - i) := by
  unfold gt
  have l : (T.take n).length = n := by rw [List.length_take]; omega
  rw [List.getD_eq_getElem?_getD, List.getD_eq_getElem?_getD, List.getElem?_reverse (by omega), l, List.getElem?_take_of_lt (by omega)]
/-- the coefficients of a product, so far as 96 -/
structure Ser (ps : Ps) (A : Nat → Int) : Prop where
  z : A 0 = 1
  b : ∀ n : Nat, (A n).natAbs < 2 ^ 200
  r : ∀ k : Nat, k < 96 → (k : Int) * A k = sm k fun i => cS ps (i + 1) * A (k - 1 - i)
theorem ser_of {ps : Ps} {S T : List Int} (h : okT ps S T = true) : Ser ps (gt T) := by
  unfold okT at h
  rw [Bool.and_eq_true, Bool.and_eq_true, Bool.and_eq_true, Bool.and_eq_true, Bool.and_eq_true] at h
  obtain ⟨a, b, c, d, e, f⟩ := h
  have a := of_decide_eq_true a
  have b := of_decide_eq_true b
  have c := of_decide_eq_true c
  cases T with
  | nil => cases c
  | cons t T =>
    have t1 : t = 1 := Option.some.inj c
    subst t1
    refine ⟨rfl, fun n => ?_, fun k hk => ?_⟩
    · unfold gt
      rw [List.getD_eq_getElem?_getD]
      cases g : (1 :: T)[n]? with
      | none => exact Nat.pow_pos (by decide)
      | some x =>
        have := List.all_eq_true.mp d x (List.mem_of_getElem? g)
        exact of_decide_eq_true this
    · cases k with
      | zero => show (0 : Int) * _ = 0; rw [Int.zero_mul]
      | succ k =>
        have r := go_rule S T [1] 1 rfl f k (by rw [List.length_cons] at b; omega)
        have e1 : [(1 : Int)].reverse ++ T = 1 :: T := rfl
        rw [e1, show 1 + k = k + 1 by omega] at r
        rw [r]
        have ln : ((List.take (k + 1) (1 :: T)).reverse).length = k + 1 := by rw [List.length_reverse, List.length_take]; omega
        rw [dot_sm _ _ (by rw [ln]; omega), ln]
        refine sm_congr fun i hi => ?_
        rw [gt_rev (by omega) hi]
        have := of_decide_eq_true (List.all_eq_true.mp e i (List.mem_range.mpr (by omega)))
        rw [this]
theorem sN_ok {ps : Ps} (g : Gp ps) : ∀ q ∈ ps, 1 ≤ sN q ∧ sN q ≤ 23 ∧ q.1 = (sN q : Int) ∧ q.2.natAbs ≤ 60 := fun q hq => by
  have := g.ok q hq
  unfold sN
  omega
theorem sQ_cS {ps : Ps} (g : Gp ps) {N k : Nat} (hk : k < N) : sQ N ps k = - cS ps k := by
  rw [sQ_all (fun q hq => (sN_ok g q hq).1) hk]
  unfold cS
  omega
theorem eS_abs : ∀ (ps : Ps) (n : Nat), (∀ q ∈ ps, q.2.natAbs ≤ 60) → (eS ps n).natAbs ≤ 60 * ps.length
  | [], n, _ => by simp [eS]
  | q :: ps, n, h => by
    have a := eS_abs ps n fun r hr => h r (List.mem_cons_of_mem _ hr)
    have b := h q List.mem_cons_self
    show ((if n % sN q = 0 then q.2 else 0) + eS ps n).natAbs ≤ _
    rw [List.length_cons]
    split <;> omega
theorem cS_lt {ps : Ps} (g : Gp ps) {k : Nat} (hk : k < 100) : (cS ps k).natAbs < 2 ^ 30 := by
  have h := sm_bound (100 * 240) (fun j => dv (j + 1) k * eS ps (j + 1)) k fun j hj => by
    rw [Int.natAbs_mul]
    have a := dv_le (j + 1) k
    have b := eS_abs ps (j + 1) fun q hq => (sN_ok g q hq).2.2.2
    have l := g.len
    exact Nat.mul_le_mul (by omega) (by omega)
  have : k * (100 * 240) ≤ 100 * (100 * 240) := Nat.mul_le_mul_right _ (by omega)
  unfold cS
  omega
set_option exponentiation.threshold 3000
theorem pow_up : 2 ^ 200 < 2 ^ 1000 := Nat.pow_lt_pow_right (by decide) (by decide)
theorem numbers_of_eq {ps : Ps} {A : Nat → Int} (g : Gp ps) (s : Ser ps A) {N : Nat} (hN : N ≤ 96) : F_numbers_of [Pd ps, .int N] = some (.list (rowI N A)) := by
  have l4 := g.len
  obtain ⟨c3, c4, c5, e⟩ := num_loop (N := N) (by omega) (.dat (Pd ps)) [] ps (fun _ => 0) .un .un .un (sN_ok g) rfl rfl rfl
  have rp := rep0 (N := N) (by omega)
  have ln : (rowsP ps).length ≤ 100000 := by rw [rowsP_length]; omega
  have kx : ixF (Pd ps) (.int 1) = some (.tuple (rowsP ps)) := by simp [Pd]
  have rw_ : F_row_by_powers [.list (rowI N (ee ps fun _ => 0)), .int N] = some (.list (rowI N A)) := by
    rcases Nat.eq_zero_or_pos N with c | c
    · subst c
      have z : F_row_by_powers [.list (rowI 0 (ee ps fun _ => 0)), .int ((0 : Nat) : Int)] = some (.list []) := rowp_zero (.list [])
      exact z
    · obtain ⟨M, rfl⟩ : ∃ M, N = M + 1 := ⟨N - 1, by omega⟩
      refine rowp_eq (ee ps fun _ => 0) A (fun i hi => ?_) (by omega) s.z (fun i hi => Nat.lt_trans (s.b i) pow_up) fun k k1 kM => ?_
      · rcases Nat.eq_zero_or_pos i with z | z
        · subst z; rw [ee_zero]; decide
        · rw [ee_eS ps _ i z, Int.zero_add]
          have := eS_abs ps i fun q hq => (sN_ok g q hq).2.2.2
          omega
      · have sg : ∀ j, j < M + 1 → sgm (ee ps fun _ => 0) M j = cS ps j := fun j hj => by
          have h2 := sQ_cS g hj
          unfold sgm
          have : (fun j_1 => dv (j_1 + 1) j * ee ps (fun _ => 0) (j_1 + 1)) = fun i => dv (i + 1) j * eS ps (i + 1) := funext fun i => by
            rw [ee_eS ps _ (i + 1) (Nat.succ_pos i), Int.zero_add]
          rw [this, sgm_sQ ps fun q hq => (sN_ok g q hq).1, h2]
          omega
        rw [s.r k (by omega)]
        exact sm_congr fun i hi => by rw [sg _ (by omega)]
  generalize rowI N A = R1 at *
  generalize rowI N (ee ps fun _ => 0) = R2 at *
  generalize (rowI N fun _ => 0) = R3 at *
  generalize rowsP ps = R5 at *
  generalize Pd ps = P at *
  simp [F_numbers_of, B_numbers_of, rp, kx, ln, e, rw_, -forGo, -ixF]
/-! ### placed -/
def shN (ps : Ps) : Nat := (Ssum ps / 24).toNat
def bp (ps : Ps) (A : Nat → Int) (n : Nat) : Int := if n < shN ps then 0 else A (n - shN ps)
theorem rowI_app (a b : Nat) (f : Nat → Int) : rowI (a + b) f = rowI a f ++ rowI b fun i => f (a + i) := by
  induction b with
  | zero => simp [rowI]
  | succ b ih => rw [← Nat.add_assoc, rowI_succ, ih, rowI_succ, List.append_assoc]
theorem rowI_bp {ps : Ps} {A : Nat → Int} {N : Nat} : rowI (shN ps) (fun _ => 0) ++ rowI N A = rowI (shN ps + N) (bp ps A) := by
  rw [rowI_app]
  congr 1
  · exact rowI_congr fun i hi => by unfold bp; rw [if_pos hi]
  · exact rowI_congr fun i hi => by unfold bp; rw [if_neg (by omega)]; congr 1; omega
theorem mul0 {N : Nat} (h : N ≤ 100000) : mulF (.list [.int 0]) (.int (N : Int)) = some (.list (rowI N fun _ => 0)) := rep0 h
theorem placed_numbers_eq {ps : Ps} {A : Nat → Int} (g : Gp ps) (s : Ser ps A) (s0 : 0 ≤ Ssum ps / 24) {N : Nat} (hN : N ≤ 96) (hs : shN ps ≤ N) : F_placed_numbers [Pd ps, .int N] = some (.list (rowI N (bp ps A))) := by
  have fp := first_placed_eq g
  have es : Ssum ps / 24 = (shN ps : Int) := by unfold shN; omega
  rw [es] at fp
  have mn : min2F [.int (shN ps : Int), .int (N : Int)] = some (.int (shN ps : Int)) := by
    have : ¬ (N : Int) < (shN ps : Int) := by omega
    simp [min2F, this]
  have m0 := mul0 (N := shN ps) (by omega)
  have sb : subF (.int (N : Int)) (.int (shN ps : Int)) = some (.int ((N - shN ps : Nat) : Int)) := by
    show some (PyData.int ((N : Int) - (shN ps : Int))) = _
    congr 2
    omega
  have no := numbers_of_eq g s (N := N - shN ps) (by omega)
  have ct : catF (.list (rowI (shN ps) fun _ => 0)) (.list (rowI (N - shN ps) A)) = some (.list (rowI N (bp ps A))) := by
    unfold catF
    simp only [rowI_length]
    rw [if_pos (by omega), rowI_bp, show shN ps + (N - shN ps) = N by omega]
  generalize (rowI (shN ps) fun _ => 0) = R1 at *
  generalize rowI (N - shN ps) A = R2 at *
  generalize rowI N (bp ps A) = R3 at *
  generalize Pd ps = P at *
  simp [F_placed_numbers, B_placed_numbers, fp, mn, m0, sb, no, ct, -min2F, -subF]
end K81

set_option exponentiation.threshold 3000
noncomputable section
namespace K81
open PySem PySem.Spec PyProof.Rows L2 EP FL PSr
theorem digits_row {N : Nat} {f : Nat → Int} (hN : N ≤ 100) (h : ∀ i, i < N → (f i).natAbs < 2 ^ 1000) : F_check_digits [.list (rowI N f)] = some .none := by
  obtain ⟨T, p1, p2⟩ : ∃ T : Int, (powF (.int 10) (.int 50)).bind (fun x => powF x (.int 8)) = some (.int T) ∧ 2 ^ 1000 ≤ T := by
    have a1 : powF (.int 10) (.int 50) = some (.int (10 ^ 50)) := by
      have c : powOk 10 50 = true := powOk_of (by decide) (by decide) (by decide)
      simp only [powF, intF, c, if_true]; rfl
    have a2 : powF (.int (10 ^ 50)) (.int 8) = some (.int ((10 ^ 50) ^ 8)) := by
      have c : powOk (10 ^ 50) 8 = true := cdec_of (by decide +kernel)
      simp only [powF, intF, c, if_true]; rfl
    exact ⟨(10 ^ 50) ^ 8, by rw [a1]; exact a2, by decide +kernel⟩
  obtain ⟨x, x1, x2⟩ := Option.bind_eq_some_iff.mp p1
  have L := lc_rowI (tg := gN 2) (tt := xYes) (el := xOp (cmpF fun i j => decide (j ≤ i)) (xCb absF (aCons (xBo 2) aNil)) (xBo 1)) (ρw := [.arg (rowI N f), .dat (.int T), .un]) (π := []) f (fun _ => .bool false) (List.range N) fun i hi => by
    have hb := h i (List.mem_range.mp hi)
    have e1 : absF [.int (f i)] = some (.int ((f i).natAbs : Int)) := by
      have : (if f i < 0 then -f i else f i) = ((f i).natAbs : Int) := by omega
      simp [absF, this]
    have e2 : ¬ T ≤ ((f i).natAbs : Int) := by omega
    refine ⟨_, rfl, rfl, ?_⟩
    generalize ((f i).natAbs : Int) = Z at *
    simp [e1, e2, -absF]
  have L : lcGo (gN 2) xYes (xOp (cmpF fun i j => decide (j ≤ i)) (xCb absF (aCons (xBo 2) aNil)) (xBo 1)) [.arg (rowI N f), .dat (.int T), .un] (rowI N f) [] = some ((List.range N).map fun _ => .bool false, []) := L
  have bo : boolsO ((List.range N).map fun _ => (.bool false : D)) = some ((List.range N).map fun _ => false) := by
    have : ∀ L : List Nat, boolsO (L.map fun _ => (.bool false : D)) = some (L.map fun _ => false) := by
      intro L
      induction L with
      | nil => rfl
      | cons x L ih => show (boolsO (L.map fun _ => (.bool false : D))).map _ = _; rw [ih]; rfl
    exact this _
  have ba : ((List.range N).map fun _ => false).any id = false := by
    simp
  have ln : (rowI N f).length ≤ 100000 := by simp [rowI]; omega
  have af : anyF [.list ((List.range N).map fun _ => (.bool false : D))] = some (.bool false) := by
    show (boolsO _).map _ = _
    rw [bo]
    show some (PyData.bool _) = _
    rw [ba]
  generalize rowI N f = R at *
  generalize ((List.range N).map fun _ => (.bool false : D)) = R2 at *
  simp [F_check_digits, B_check_digits, x1, x2, L, ln, af, -lcGo, -anyF, -cmpF]
theorem check_many_eq {N : Nat} {m : Int} (h : (N : Int) ≤ m) : F_check_many [.int N, .int m] = some .none := by
  have w1 := is_within_eq (N : Int) 0 m
  rw [decide_eq_true (by omega)] at w1
  simp [F_check_many, B_check_many, w1]

theorem placed_row_eq {ps : Ps} {A : Nat → Int} {L : Nat} (h : Gl ps L) (s : Ser ps A) (s0 : 0 ≤ Ssum ps / 24) {N : Nat} (hN : N ≤ 96) (hs : shN ps ≤ N) : F_placed_row [.int L, Pd ps, .int N] = some (.list (rowI N (bp ps A))) := by
  have c1 := check_level_ok (l := (L : Int)) ⟨by have := h.L0; omega, by have := h.L1; omega⟩
  have c2 := check_product_ok h.g
  have c3 := check_carried_eq h
  have c4 := check_many_eq (N := N) (m := 3000) (by omega)
  have pn := placed_numbers_eq h.g s s0 hN hs
  have dg := digits_row (N := N) (f := bp ps A) (by omega) fun i hi => by
    unfold bp
    split
    · exact Nat.pow_pos (by decide)
    · exact Nat.lt_trans (s.b _) (Nat.pow_lt_pow_right (by decide) (by decide))
  generalize rowI N (bp ps A) = R at *
  generalize Pd ps = P at *
  simp [F_placed_row, B_placed_row, c1, c2, c3, c4, pn, dg]
theorem sym_abs (x : Int) (p : Nat) : (sym x p).natAbs ≤ 1 := by
  unfold sym
  split
  · decide
  · split <;> decide
def cf (ps : Ps) (p : Nat) : Int := sym (sgn ps) p * (p : Int) ^ ((wgt ps).toNat - 1)
theorem pw_lt {p i : Nat} (pb : p ≤ 97) (hi : i ≤ 24) (x : Int) : (sym x p * (p : Int) ^ i).natAbs < 2 ^ 170 := by
  have a := sym_abs x p
  have b : p ^ i ≤ 97 ^ 24 := by
    rcases Nat.eq_zero_or_pos p with z | z
    · subst z
      rcases Nat.eq_zero_or_pos i with w | w
      · subst w; exact Nat.pow_pos (by decide)
      · rw [Nat.zero_pow w]; exact Nat.zero_le _
    · exact Nat.le_trans (Nat.pow_le_pow_left pb i) (Nat.pow_le_pow_right (by decide) hi)
  rw [Int.natAbs_mul, Int.natAbs_pow, Int.natAbs_natCast]
  have c : (sym x p).natAbs * p ^ i ≤ 1 * 97 ^ 24 := Nat.mul_le_mul a b
  exact Nat.lt_of_le_of_lt c (by decide +kernel)
theorem carried_by_eq {ps : Ps} {L p : Nat} (h : Gl ps L) (p3 : 3 ≤ p) (pb : p ≤ 97) (f : fac p = [((p : Int), 1)]) : F_carried_by [Pd ps, .int p] = some (.int (cf ps p)) := by
  obtain ⟨k, _, _, _, _, w, _⟩ := h.all
  have kt := kind_told_eq h.g k
  have s := symbol_eq (x := sgn ps) p3 pb f
  have L := forGo_inv (tg := gN 5) (b := B_carried_by_b1) (fun i ρ π2 => ∃ c5 : FL.Slot, ρ = [.dat (Pd ps), .dat (.int p), .dat (.int (wgt ps)), .dat (.int (sgn ps)), .dat (.int (sym (sgn ps) p * (p : Int) ^ i)), c5] ∧ π2 = [] ∧ c5.isOwn = false) (rg 0 ((wgt ps).toNat - 1)) (by
    rintro i dd ρ π2 hd ⟨c5, rfl, rfl, h5⟩
    obtain ⟨li, rfl⟩ := rg_get hd
    have m := mulOk_of (i := sym (sgn ps) p * (p : Int) ^ i) (j := (p : Int)) (a := 170) (b := 10) (pw_lt pb (by omega) _) (by omega)
    have e : sym (sgn ps) p * (p : Int) ^ i * (p : Int) = sym (sgn ps) p * (p : Int) ^ (i + 1) := by rw [Int.pow_succ, Int.mul_assoc]
    refine ⟨[.dat (Pd ps), .dat (.int p), .dat (.int (wgt ps)), .dat (.int (sgn ps)), .dat (.int (sym (sgn ps) p * (p : Int) ^ i)), .dat (.int (0 + i))], _, [], by simp [h5], .inl ?_, .dat (.int (0 + i)), rfl, rfl, rfl⟩
    rw [← e]
    generalize sym (sgn ps) p * (p : Int) ^ i = Z at *
    simp [B_carried_by_b1, m]) (ρ := [.dat (Pd ps), .dat (.int p), .dat (.int (wgt ps)), .dat (.int (sgn ps)), .dat (.int (sym (sgn ps) p)), .un]) (π := []) ⟨.un, by rw [Int.pow_zero, Int.mul_one], rfl, rfl⟩
  obtain ⟨ρ', π', e, c5', rfl, rfl, h5'⟩ := L
  rw [rg_length] at e
  have ecf : sym (sgn ps) p * (p : Int) ^ ((wgt ps).toNat - 1) = cf ps p := rfl
  rw [ecf] at e
  have sb : subF (.int (wgt ps)) (.int 1) = some (.int (wgt ps - 1)) := rfl
  have r1 : rgOk (wgt ps - 1) = true := rgOk_mk (by omega) (by omega)
  have t : (wgt ps - 1).toNat = (wgt ps).toNat - 1 := by omega
  generalize cf ps p = C at *
  generalize sym (sgn ps) p = S at *
  generalize Pd ps = P at *
  simp [F_carried_by, B_carried_by, kt, s, r1, t, e, -forGo]
theorem n3_lt0 {d N k : Nat} (d0 : 0 < d) : k < n3 0 N d ↔ k * d < N := by
  have dk : ((k * d : Nat) : Int) = (k : Int) * d := by push_cast; rfl
  unfold n3 Builtin.Range.rangeSize
  rw [if_pos (by omega)]
  by_cases c : (0 : Int) < N
  · rw [if_pos c]
    have nn := Int.ediv_nonneg (show (0 : Int) ≤ (N : Int) - 0 - 1 by omega) (show (0 : Int) ≤ d by omega)
    have m := Int.le_ediv_iff_mul_le (a := (k : Int)) (b := (N : Int) - 0 - 1) (c := (d : Int)) (by omega)
    generalize ((N : Int) - 0 - 1) / d = q at *
    generalize (k : Int) * d = z at *
    omega
  · rw [if_neg c]
    omega
theorem pick_to {N h m : Nat} (hm : 0 < m) (f : Nat → Int) : pickL (rowI N f) none (some (h : Int)) (some (m : Int)) = rowI ((min h N + m - 1) / m) (fun i => f (m * i)) := by
  have e : sliceBounds none (some (h : Int)) (some (m : Int)) N = ((0 : Int), ((min h N : Nat) : Int), (m : Int)) := by
    simp only [sliceBounds, Option.getD_some]
    rw [if_pos (show (m : Int) > 0 by omega), if_pos (show (m : Int) > 0 by omega), if_neg (show ¬ (h : Int) < 0 by omega)]
    congr 1
    congr 1
    omega
  unfold pickL
  rw [rowI_length, e]
  have lM : min h N ≤ N := Nat.min_le_right _ _
  generalize min h N = M0 at *
  show (sliceRange (0 : Int) (M0 : Int) (m : Int)).filterMap _ = _
  have e2 : sliceRange (0 : Int) (M0 : Int) (m : Int) = (List.range ((M0 + m - 1) / m)).map fun k => m * k := by
    unfold sliceRange
    simp only
    rw [if_pos (show (m : Int) > 0 by omega)]
    have e3 : (if (0 : Int) < (M0 : Int) then ((M0 : Int) - 0 + (m : Int) - 1) / (m : Int) else 0) = (((M0 + m - 1) / m : Nat) : Int) := by
      by_cases c : 0 < M0
      · rw [if_pos (by omega)]
        have : (M0 : Int) - 0 + (m : Int) - 1 = ((M0 + m - 1 : Nat) : Int) := by omega
        rw [this]; rfl
      · rw [if_neg (by omega)]
        have : (M0 + m - 1) / m = 0 := Nat.div_eq_of_lt (by omega)
        rw [this]; rfl
    rw [e3, Int.toNat_natCast]
    refine List.map_congr_left fun k _ => ?_
    have : (0 : Int) + (m : Int) * (k : Int) = ((m * k : Nat) : Int) := by push_cast; omega
    rw [this]; rfl
  rw [e2, pick_rowI f (fun k => m * k) _ fun i hi => by
    have h1 : (i + 1) * m ≤ M0 + m - 1 := (Nat.le_div_iff_mul_le hm).mp hi
    rw [Nat.add_mul, Nat.one_mul, Nat.mul_comm] at h1
    omega]
/-! ### carried -/
def bq (ps : Ps) (A : Nat → Int) (p n : Nat) : Int := bp ps A (p * n) + (if n % p = 0 then cf ps p * bp ps A (n / p) else 0)
theorem bp_lt {ps : Ps} {A : Nat → Int} (s : Ser ps A) (n : Nat) : (bp ps A n).natAbs < 2 ^ 200 := by
  unfold bp
  split
  · exact Nat.pow_pos (by decide)
  · exact s.b _
theorem carried_numbers_eq {ps : Ps} {A : Nat → Int} {L p : Nat} (h : Gl ps L) (s : Ser ps A) (p3 : 3 ≤ p) (pb : p ≤ 97) (f : fac p = [((p : Int), 1)]) {N K : Nat} (hN : N ≤ 1000) (K0 : K ≤ 1000) (hK : (min (p * K) N + p - 1) / p = K) (hK2 : p * (K - 1) < N) (N0 : 0 < N) :
    F_carried_numbers [Pd ps, .list (rowI N (bp ps A)), .int p, .int K] = some (.list (rowI K (bq ps A p))) := by
  have cb := carried_by_eq h p3 pb f
  have mpk : p * K ≤ 97 * 1000 := Nat.mul_le_mul pb K0
  have m1 := mulF_of (i := (p : Int)) (j := (K : Int)) (mulOk_of (a := 12) (b := 12) (by omega) (by omega))
  rw [show (p : Int) * (K : Int) = ((p * K : Nat) : Int) by push_cast; rfl] at m1
  have pt := pick_to (N := N) (h := p * K) (m := p) (by omega) (bp ps A)
  rw [hK] at pt
  have lp : (rowI K fun i => bp ps A (p * i)).length ≤ (rowI N (bp ps A)).length := by
    rw [rowI_length, rowI_length]
    have := Nat.mul_le_mul_right (K - 1) (show 1 ≤ p by omega)
    omega
  have LP := forGo_inv (tg := gN 6) (b := B_carried_numbers_b1) (fun i ρ π2 => ∃ c6 : FL.Slot, ρ = [.dat (Pd ps), .dat (.list (rowI N (bp ps A))), .dat (.int p), .dat (.int K), .own (rowI K fun n => bp ps A (p * n) + (if n % p = 0 ∧ n < i * p then cf ps p * bp ps A (n / p) else 0)), .dat (.int (cf ps p)), c6] ∧ π2 = [] ∧ c6.isOwn = false) (rg3 0 K p) (by
    rintro i dd ρ π2 hd ⟨c6, rfl, rfl, h6⟩
    obtain ⟨li, rfl⟩ := rg3_get hd
    have lt := (n3_lt0 (by omega)).mp li
    have e0 : (0 : Int) + (i : Int) * p = ((i * p : Nat) : Int) := by push_cast; omega
    rw [e0]
    have dv1 : i * p / p = i := Nat.mul_div_cancel _ (by omega)
    have md1 : i * p % p = 0 := Nat.mul_mod_left _ _
    have ip : i ≤ i * p := Nat.le_mul_of_pos_right _ (by omega)
    have q := divN (n := i * p) (x := p) (by omega) (by omega)
    rw [dv1] at q
    have a1 : atI (rowI K fun n => bp ps A (p * n) + (if n % p = 0 ∧ n < i * p then cf ps p * bp ps A (n / p) else 0)) ((i * p : Nat) : Int) = some (.int (bp ps A (p * (i * p)))) := by
      rw [rowI_at (by omega) (by omega)]
      rw [show ((i * p : Nat) : Int).toNat = i * p by omega, if_neg (by omega), Int.add_zero]
    have a2 : ixF (.list (rowI N (bp ps A))) (.int (i : Int)) = some (.int (bp ps A i)) := by
      have iK : i ≤ K - 1 := by omega
      have := Nat.mul_le_mul_right (K - 1) (show 1 ≤ p by omega)
      have : atI (rowI N (bp ps A)) (i : Int) = some (.int (bp ps A i)) := by rw [rowI_at (by omega) (by omega)]; rfl
      simpa [ixF] using this
    have x1 : ixN (rowI K fun n => bp ps A (p * n) + (if n % p = 0 ∧ n < i * p then cf ps p * bp ps A (n / p) else 0)).length ((i * p : Nat) : Int) = some (i * p) := by
      rw [rowI_length]
      exact ixN_of (by omega) (by omega)
    have m2 := mulF_of (i := cf ps p) (j := bp ps A i) (mulOk_of (a := 170) (b := 200) (pw_lt pb (by obtain ⟨_, _, _, _, _, w, _⟩ := h.all; omega) _) (bp_lt s i))
    refine ⟨[.dat (Pd ps), .dat (.list (rowI N (bp ps A))), .dat (.int p), .dat (.int K), .own (rowI K fun n => bp ps A (p * n) + (if n % p = 0 ∧ n < i * p then cf ps p * bp ps A (n / p) else 0)), .dat (.int (cf ps p)), .dat (.int ((i * p : Nat) : Int))], [.dat (Pd ps), .dat (.list (rowI N (bp ps A))), .dat (.int p), .dat (.int K), .own ((rowI K fun n => bp ps A (p * n) + (if n % p = 0 ∧ n < i * p then cf ps p * bp ps A (n / p) else 0)).set (i * p) (.int (bp ps A (p * (i * p)) + cf ps p * bp ps A i))), .dat (.int (cf ps p)), .dat (.int ((i * p : Nat) : Int))], [], by simp [h6], .inl ?_, .dat (.int ((i * p : Nat) : Int)), ?_, rfl, rfl⟩
    · generalize (rowI K fun n => bp ps A (p * n) + (if n % p = 0 ∧ n < i * p then cf ps p * bp ps A (n / p) else 0)) = R1 at *
      generalize rowI N (bp ps A) = R2 at *
      generalize ((i * p : Nat) : Int) = Z at *
      generalize Pd ps = P at *
      generalize cf ps p = C at *
      simp [B_carried_numbers_b1, q, a1, a2, x1, m2, -ixF, -fdivF]
    · rw [rowI_set]
      have hrow : (rowI K fun n => if n = i * p then bp ps A (p * (i * p)) + cf ps p * bp ps A i else bp ps A (p * n) + (if n % p = 0 ∧ n < i * p then cf ps p * bp ps A (n / p) else 0)) = rowI K fun n => bp ps A (p * n) + (if n % p = 0 ∧ n < (i + 1) * p then cf ps p * bp ps A (n / p) else 0) := rowI_congr fun n hn => by
        have e7 : (i + 1) * p = i * p + p := Nat.succ_mul i p
        by_cases c : n = i * p
        · rw [if_pos c, c, if_pos ⟨md1, by omega⟩, dv1]
        · rw [if_neg c]
          by_cases c2 : n % p = 0 ∧ n < i * p
          · rw [if_pos c2, if_pos ⟨c2.1, by omega⟩]
          · rw [if_neg c2, if_neg]
            rintro ⟨c3, c4⟩
            have e8 := Nat.div_add_mod n p
            rw [c3] at e8
            have e9 : p * (n / p) = n / p * p := Nat.mul_comm _ _
            rcases Nat.lt_trichotomy (n / p) i with c5 | c5 | c5
            · have := Nat.mul_le_mul_right p (show n / p + 1 ≤ i by omega)
              rw [Nat.succ_mul] at this
              exact c2 ⟨c3, by omega⟩
            · rw [c5] at e8 e9; omega
            · have := Nat.mul_le_mul_right p (show i + 1 ≤ n / p by omega)
              omega
      rw [hrow]) (ρ := [.dat (Pd ps), .dat (.list (rowI N (bp ps A))), .dat (.int p), .dat (.int K), .own (rowI K fun n => bp ps A (p * n)), .dat (.int (cf ps p)), .un]) (π := []) ⟨.un, by
        have hrow : (rowI K fun n => bp ps A (p * n) + (if n % p = 0 ∧ n < 0 * p then cf ps p * bp ps A (n / p) else 0)) = rowI K fun n => bp ps A (p * n) := rowI_congr fun n hn => by
          rw [if_neg (by omega)]; omega
        rw [hrow], rfl, rfl⟩
  obtain ⟨ρ', π', e, c6', rfl, rfl, h6'⟩ := LP
  rw [rg3_length] at e
  have fin : (rowI K fun n => bp ps A (p * n) + (if n % p = 0 ∧ n < n3 0 (K : Int) (p : Int) * p then cf ps p * bp ps A (n / p) else 0)) = rowI K (bq ps A p) := rowI_congr fun n hn => by
    unfold bq
    by_cases c : n % p = 0
    · have e8 := Nat.div_add_mod n p
      rw [c] at e8
      have e9 : p * (n / p) = n / p * p := Nat.mul_comm _ _
      have := (n3_lt0 (d := p) (N := K) (k := n / p) (by omega)).mpr (by omega)
      have := Nat.mul_le_mul_right p (show n / p + 1 ≤ n3 0 (K : Int) (p : Int) by omega)
      rw [Nat.succ_mul] at this
      rw [if_pos c, if_pos ⟨c, by omega⟩]
    · rw [if_neg c, if_neg fun z => c z.1]
  rw [fin] at e
  have r3 : r3Ok 0 (K : Int) (p : Int) = true := cdec_of ⟨⟨by omega, by omega⟩, ⟨by omega, by omega⟩, by omega, by omega, by omega⟩
  have pz : ¬ p = 0 := by omega
  generalize (rowI K fun i => bp ps A (p * i)) = R1 at *
  generalize rowI N (bp ps A) = R2 at *
  generalize rowI K (bq ps A p) = R3 at *
  generalize ((p * K : Nat) : Int) = Z at *
  generalize Pd ps = P at *
  simp [F_carried_numbers, B_carried_numbers, m1, pt, lp, pz, cb, r3, e, -forGo]
end K81

set_option exponentiation.threshold 3000
noncomputable section
namespace K81
open PySem PySem.Spec PyProof.Rows L2 EP FL PSr
theorem mul_lt {x y : Int} {a b : Nat} (hx : x.natAbs < 2 ^ a) (hy : y.natAbs < 2 ^ b) : (x * y).natAbs < 2 ^ (a + b) := by
  rw [Int.natAbs_mul, Nat.pow_add]
  exact Nat.mul_lt_mul'' hx hy
theorem add_lt {x y : Int} {a : Nat} (hx : x.natAbs < 2 ^ a) (hy : y.natAbs < 2 ^ a) : (x + y).natAbs < 2 ^ (a + 1) := by
  have := Int.natAbs_add_le x y
  rw [Nat.pow_succ]
  omega
theorem up_lt {x : Int} {a b : Nat} (hx : x.natAbs < 2 ^ a) (h : a ≤ b) : x.natAbs < 2 ^ b := Nat.lt_of_lt_of_le hx (Nat.pow_le_pow_right (by decide) h)
theorem zero_lt (a : Nat) : (0 : Int).natAbs < 2 ^ a := Nat.pow_pos (by decide)
theorem bq_lt {ps : Ps} {A : Nat → Int} {L p : Nat} (h : Gl ps L) (s : Ser ps A) (pb : p ≤ 97) (n : Nat) : (bq ps A p n).natAbs < 2 ^ 400 := by
  have c := pw_lt (i := (wgt ps).toNat - 1) pb (by obtain ⟨_, _, _, _, _, w, _⟩ := h.all; omega) (sgn ps)
  have c : (cf ps p).natAbs < 2 ^ 170 := c
  unfold bq
  refine up_lt (add_lt (a := 370) (up_lt (bp_lt s _) (by decide)) ?_) (by decide)
  split
  · exact mul_lt (a := 170) (b := 200) c (bp_lt s _)
  · exact zero_lt _
theorem carried_row_eq {ps : Ps} {A : Nat → Int} {L p K : Nat} (h : Gl ps L) (s : Ser ps A) (s0 : 0 ≤ Ssum ps / 24) (p3 : 3 ≤ p) (pb : p ≤ 97) (f : fac p = [((p : Int), 1)]) (d : L % p ≠ 0) (K0 : 1 ≤ K) (hK : p * K ≤ 96) (hs : shN ps ≤ K) :
    F_carried_row [.int L, Pd ps, .int p, .int K] = some (.list (rowI K (bq ps A p))) := by
  have c1 := check_level_ok (l := (L : Int)) ⟨by have := h.L0; omega, by have := h.L1; omega⟩
  have c2 := check_product_ok h.g
  have c3 := check_carried_eq h
  have c4 := check_prime_eq (l := L) p3 pb f d
  have kp : K ≤ p * K := Nat.le_mul_of_pos_left _ (by omega)
  have c5 := check_many_eq (N := K) (m := 3000) (by omega)
  have pn := placed_numbers_eq h.g s s0 hK (by omega)
  have e1 : p * (K - 1) + p = p * K := by rw [← Nat.mul_succ, show (K - 1).succ = K by omega]
  have hK1 : (min (p * K) (p * K) + p - 1) / p = K := by
    rw [Nat.min_self, show p * K + p - 1 = p - 1 + p * K by omega, Nat.add_mul_div_left _ _ (by omega), Nat.div_eq_of_lt (by omega), Nat.zero_add]
  have cn := carried_numbers_eq h s p3 pb f (N := p * K) (K := K) (by omega) (by omega) hK1 (by omega) (by omega)
  have dg := digits_row (N := K) (f := bq ps A p) (by omega) fun i hi => up_lt (bq_lt h s pb i) (by decide)
  have sb : subF (.int (K : Int)) (.int 1) = some (.int ((K - 1 : Nat) : Int)) := by
    show some (PyData.int ((K : Int) - 1)) = _
    congr 2
    omega
  have m1 := mulF_of (i := (p : Int)) (j := ((K - 1 : Nat) : Int)) (mulOk_of (a := 12) (b := 12) (by omega) (by omega))
  rw [show (p : Int) * ((K - 1 : Nat) : Int) = ((p * (K - 1) : Nat) : Int) by push_cast; rfl] at m1
  have m2 := mulF_of (i := (p : Int)) (j := (K : Int)) (mulOk_of (a := 12) (b := 12) (by omega) (by omega))
  rw [show (p : Int) * (K : Int) = ((p * K : Nat) : Int) by push_cast; rfl] at m2
  have lt : ¬ (3000 : Int) < ((p * (K - 1) : Nat) : Int) := by omega
  generalize rowI K (bq ps A p) = R at *
  generalize rowI (p * K) (bp ps A) = R1 at *
  generalize ((p * (K - 1) : Nat) : Int) = Z1 at *
  generalize ((p * K : Nat) : Int) = Z2 at *
  generalize ((K - 1 : Nat) : Int) = Z3 at *
  generalize Pd ps = P at *
  simp [F_carried_row, B_carried_row, c1, c2, c3, c4, c5, sb, m1, m2, lt, pn, cn, dg, -subF]
/-! ### the first place beside -/
def fb (b c : Nat → Int) (num : Int) (K : Nat) : Option Nat := (List.range K).find? fun n => decide (c n ≠ num * b n)
theorem beside_loop {N : Nat} (hN : N ≤ 1000) (b c : Nat → Int) (num : Int) (X : FL.Slot) (hb : ∀ i, (b i).natAbs < 2 ^ 200) (hn : num.natAbs < 2 ^ 400) : ∀ (L : List Nat), (∀ i ∈ L, i < N) → ∀ c3 c4 : FL.Slot, c3.isOwn = false → c4.isOwn = false →
    ∃ ρ', forGo (gT 2 (gsC (gN 3) (gsC (gN 4) gsN))) B_first_beside_b1 (L.map fun (i : Nat) => .tuple [.int i, .int (c i)]) [.dat (.list (rowI N b)), X, .dat (.int num), c3, c4] [] = some (ρ', [], match L.find? (fun n => decide (c n ≠ num * b n)) with | some n => .rt (.int (n : Nat)) | none => .nx)
  | [], _, c3, c4, _, _ => ⟨_, rfl⟩
  | i :: L, h, c3, c4, h3, h4 => by
    obtain ⟨ρ', ih⟩ := beside_loop hN b c num X hb hn L (fun j hj => h j (List.mem_cons_of_mem _ hj)) (.dat (.int (i : Int))) (.dat (.int (c i))) rfl rfl
    have hi := h i List.mem_cons_self
    have a2 : ixF (.list (rowI N b)) (.int (i : Int)) = some (.int (b i)) := by
      have : atI (rowI N b) (i : Int) = some (.int (b i)) := by rw [rowI_at (by omega) (by omega)]; rfl
      simpa [ixF] using this
    have m := mulF_of (i := num) (j := b i) (mulOk_of (a := 400) (b := 200) hn (hb i))
    have eq := eqF_int true (c i) (num * b i)
    show ∃ ρ', forGo _ _ (.tuple [.int (i : Int), .int (c i)] :: L.map fun (i : Nat) => .tuple [.int i, .int (c i)]) _ [] = _
    by_cases z : c i = num * b i
    · have e1 : (i :: L).find? (fun n => decide (c n ≠ num * b n)) = L.find? (fun n => decide (c n ≠ num * b n)) := by
        rw [List.find?_cons_of_neg]; simp [z]
      rw [e1]
      refine ⟨ρ', ?_⟩
      rw [← ih]
      rw [decide_eq_true z] at eq
      generalize num * b i = Z at *
      generalize rowI N b = R at *
      generalize (L.map fun (i : Nat) => (.tuple [.int (i : Int), .int (c i)] : D)) = LL at *
      rw [forGo]
      simp [h3, h4, B_first_beside_b1, a2, m, eq, -ixF, -forGo]
    · have e1 : (i :: L).find? (fun n => decide (c n ≠ num * b n)) = some i := by
        rw [List.find?_cons_of_pos]; simp [z]
      rw [e1]
      rw [decide_eq_false z] at eq
      generalize num * b i = Z at *
      generalize rowI N b = R at *
      generalize (L.map fun (i : Nat) => (.tuple [.int (i : Int), .int (c i)] : D)) = LL at *
      rw [forGo]
      simp [h3, h4, B_first_beside_b1, a2, m, eq, -ixF, -forGo]
def oD : Option Nat → D
  | some n => .int (n : Nat)
  | none => .none
theorem enum_rowI (f : Nat → Int) : ∀ (N k : Nat), enumFrom k ((List.range' k N).map fun i => PyData.int (f i)) = (List.range' k N).map fun i => .tuple [.int (i : Int), .int (f i)]
  | 0, k => rfl
  | N + 1, k => by
    rw [List.range'_succ, List.map_cons, List.map_cons]
    show .tuple [.int (k : Int), .int (f k)] :: enumFrom (k + 1) _ = _
    rw [enum_rowI f N (k + 1)]
theorem enum_row (f : Nat → Int) (N : Nat) : enumFrom 0 (rowI N f) = (List.range N).map fun i => .tuple [.int (i : Int), .int (f i)] := by
  have := enum_rowI f N 0
  rw [← List.range_eq_range'] at this
  exact this
theorem first_beside_eq {N K : Nat} (hN : N ≤ 1000) (hK : K ≤ N) (b c : Nat → Int) (num : Int) (hb : ∀ i, (b i).natAbs < 2 ^ 200) (hn : num.natAbs < 2 ^ 400) :
    F_first_beside [.list (rowI N b), .list (rowI K c), .int num] = some (oD (fb b c num K)) := by
  obtain ⟨ρ', e⟩ := beside_loop hN b c num (.dat (.list (rowI K c))) hb hn (List.range K) (fun i hi => by have := List.mem_range.mp hi; omega) .un .un rfl rfl
  have en := enum_row c K
  have ln : (rowI K c).length ≤ 100000 := by rw [rowI_length]; omega
  unfold fb
  rw [← en] at e
  generalize rowI K c = R1 at *
  generalize rowI N b = R2 at *
  cases g : (List.range K).find? (fun n => decide (c n ≠ num * b n)) with
  | none =>
    rw [g] at e
    simp [F_first_beside, B_first_beside, ln, iL, e, oD, -forGo, -enumFrom]
  | some n =>
    rw [g] at e
    simp [F_first_beside, B_first_beside, ln, iL, e, oD, -forGo, -enumFrom]
end K81

set_option exponentiation.threshold 3000
noncomputable section
namespace K81
open PySem PySem.Spec PyProof.Rows L2 EP FL PSr
/-- what the multiple is, and where it first fails -/
def num (ps : Ps) (A : Nat → Int) (p : Nat) : Int := bq ps A p (shN ps)
def gapOf (ps : Ps) (A : Nat → Int) (p n : Nat) : Int := bq ps A p n - num ps A p * bp ps A n
def fstB (ps : Ps) (A : Nat → Int) (p K : Nat) : Option Nat := fb (bp ps A) (bq ps A p) (num ps A p) K
def dueD (ps : Ps) (A : Nat → Int) (p : Nat) : Option Nat → D
  | none => .tuple [.str "multiple", .int (num ps A p)]
  | some n => .tuple [.str "place", .int (n : Nat), .int (gapOf ps A p n)]
/-- all that a case asks: a product with its numbers, a level, a prime, the greatest place asked -/
structure Gc (ps : Ps) (A : Nat → Int) (L p B : Nat) : Prop where
  h : Gl ps L
  s : Ser ps A
  s0 : 0 ≤ Ssum ps / 24
  p3 : 3 ≤ p
  pb : p ≤ 97
  f : fac p = [((p : Int), 1)]
  d : L % p ≠ 0
  ok : okI L = true
  ib : (idxL (fac L) L).natAbs < 1000
  bd : bnd ps L = (B : Int)
  hK : p * (B + 3) ≤ 96
  sh : shN ps ≤ B
  fb : fstB ps A p (B + 3) = fstB ps A p (B + 1)
theorem fb_lt {b c : Nat → Int} {x : Int} {K n : Nat} (h : fb b c x K = some n) : n < K := List.mem_range.mp (List.mem_of_find?_eq_some h)
theorem decided_eq {ps : Ps} {A : Nat → Int} {L p B : Nat} (g : Gc ps A L p B) : F_decided [.int L, Pd ps, .int p, .list (rowI (p * B + 1) (bp ps A))] = some (dueD ps A p (fstB ps A p (B + 1))) := by
  have la := last_asked_eq g.h g.ok g.ib
  rw [g.bd] at la
  have pB : p * (B + 3) = p * B + p * 3 := Nat.mul_add _ _ _
  have hK := g.hK
  have pb := g.pb
  have p3 := g.p3
  have sh := g.sh
  have Bp : B ≤ p * B := Nat.le_mul_of_pos_left _ (by omega)
  have hK1 : (min (p * (B + 1)) (p * B + 1) + p - 1) / p = B + 1 := by
    rw [Nat.mul_succ, Nat.min_eq_right (by omega), show p * B + 1 + p - 1 = p * B + p by omega, ← Nat.mul_succ, Nat.mul_div_cancel_left _ (by omega)]
  have cn := carried_numbers_eq g.h g.s g.p3 g.pb g.f (N := p * B + 1) (K := B + 1) (by omega) (by omega) hK1 (by rw [Nat.add_sub_cancel]; omega) (by omega)
  have ad : addF (.int (B : Int)) (.int 1) = some (.int ((B + 1 : Nat) : Int)) := by
    show some (PyData.int ((B : Int) + 1)) = _
    congr 2
  have fp := first_placed_eq g.h.g
  have es : Ssum ps / 24 = (shN ps : Int) := by have := g.s0; unfold shN; omega
  rw [es] at fp
  have ix : ixF (.list (rowI (B + 1) (bq ps A p))) (.int (shN ps : Int)) = some (.int (num ps A p)) := by
    have : atI (rowI (B + 1) (bq ps A p)) (shN ps : Int) = some (.int (num ps A p)) := by rw [rowI_at (by omega) (by omega)]; rfl
    simpa [ixF] using this
  have nl : (num ps A p).natAbs < 2 ^ 400 := bq_lt g.h g.s pb _
  have bs := first_beside_eq (N := p * B + 1) (K := B + 1) (by omega) (by omega) (bp ps A) (bq ps A p) (num ps A p) (bp_lt g.s) nl
  have bs : F_first_beside [.list (rowI (p * B + 1) (bp ps A)), .list (rowI (B + 1) (bq ps A p)), .int (num ps A p)] = some (oD (fstB ps A p (B + 1))) := bs
  cases e : fstB ps A p (B + 1) with
  | none =>
    rw [e] at bs
    unfold oD at bs
    unfold dueD
    generalize num ps A p = W at *
    generalize rowI (p * B + 1) (bp ps A) = R1 at *
    generalize rowI (B + 1) (bq ps A p) = R2 at *
    generalize ((B + 1 : Nat) : Int) = Z1 at *
    generalize Pd ps = P at *
    simp [F_decided, B_decided, la, ad, cn, fp, ix, bs, -ixF, -addF]
  | some n =>
    rw [e] at bs
    unfold oD at bs
    have nK : n < B + 1 := fb_lt e
    have x1 : ixF (.list (rowI (B + 1) (bq ps A p))) (.int (n : Int)) = some (.int (bq ps A p n)) := by
      have : atI (rowI (B + 1) (bq ps A p)) (n : Int) = some (.int (bq ps A p n)) := by rw [rowI_at (by omega) (by omega)]; rfl
      simpa [ixF] using this
    have x2 : ixF (.list (rowI (p * B + 1) (bp ps A))) (.int (n : Int)) = some (.int (bp ps A n)) := by
      have : atI (rowI (p * B + 1) (bp ps A)) (n : Int) = some (.int (bp ps A n)) := by rw [rowI_at (by omega) (by omega)]; rfl
      simpa [ixF] using this
    have m := mulF_of (i := num ps A p) (j := bp ps A n) (mulOk_of (a := 400) (b := 200) nl (bp_lt g.s n))
    have dd : dueD ps A p (some n) = .tuple [.str "place", .int (n : Nat), .int (bq ps A p n - num ps A p * bp ps A n)] := rfl
    rw [dd]
    generalize num ps A p * bp ps A n = Y at *
    generalize num ps A p = W at *
    generalize bq ps A p n = C at *
    generalize bp ps A n = C2 at *
    generalize rowI (p * B + 1) (bp ps A) = R1 at *
    generalize rowI (B + 1) (bq ps A p) = R2 at *
    generalize ((B + 1 : Nat) : Int) = Z1 at *
    generalize Pd ps = P at *
    simp [F_decided, B_decided, la, ad, cn, fp, ix, bs, x1, x2, m, -ixF, -addF]
theorem placed_to_eq {ps : Ps} {A : Nat → Int} {L p B : Nat} (g : Gc ps A L p B) : F_placed_to [.int L, Pd ps, .int p] = some (.list (rowI (p * B + 1) (bp ps A))) := by
  have la := last_asked_eq g.h g.ok g.ib
  rw [g.bd] at la
  have pB : p * (B + 3) = p * B + p * 3 := Nat.mul_add _ _ _
  have hK := g.hK
  have pb := g.pb
  have p3 := g.p3
  have sh := g.sh
  have Bp : B ≤ p * B := Nat.le_mul_of_pos_left _ (by omega)
  have pn := placed_numbers_eq g.h.g g.s g.s0 (N := p * B + 1) (by omega) (by omega)
  have m1 := mulF_of (i := (p : Int)) (j := (B : Int)) (mulOk_of (a := 12) (b := 12) (by omega) (by omega))
  rw [show (p : Int) * (B : Int) = ((p * B : Nat) : Int) by push_cast; rfl] at m1
  have ad : addF (.int ((p * B : Nat) : Int)) (.int 1) = some (.int ((p * B + 1 : Nat) : Int)) := by
    show some (PyData.int (((p * B : Nat) : Int) + 1)) = _
    congr 2
  generalize rowI (p * B + 1) (bp ps A) = R1 at *
  generalize ((p * B + 1 : Nat) : Int) = Z1 at *
  generalize ((p * B : Nat) : Int) = Z2 at *
  generalize Pd ps = P at *
  simp [F_placed_to, B_placed_to, la, m1, ad, pn, -addF]
theorem asked_eq {ps : Ps} {A : Nat → Int} {L p B : Nat} (g : Gc ps A L p B) : F_check_asked [.int L, Pd ps, .int p] = some .none ∧ F_check_places [.int L, Pd ps, .int p] = some .none := by
  have la := last_asked_eq g.h g.ok g.ib
  rw [g.bd] at la
  have pB : p * (B + 3) = p * B + p * 3 := Nat.mul_add _ _ _
  have hK := g.hK
  have pb := g.pb
  have p3 := g.p3
  have Bp : B ≤ p * B := Nat.le_mul_of_pos_left _ (by omega)
  have c1 := check_level_ok (l := (L : Int)) ⟨by have := g.h.L0; omega, by have := g.h.L1; omega⟩
  have c2 := check_product_ok g.h.g
  have c4 := check_prime_eq (l := L) g.p3 g.pb g.f g.d
  have m1 := mulF_of (i := (p : Int)) (j := (B : Int)) (mulOk_of (a := 12) (b := 12) (by omega) (by omega))
  rw [show (p : Int) * (B : Int) = ((p * B : Nat) : Int) by push_cast; rfl] at m1
  have lt : ¬ (3000 : Int) < ((p * B : Nat) : Int) := by omega
  generalize ((p * B : Nat) : Int) = Z2 at *
  generalize Pd ps = P at *
  constructor
  · simp [F_check_asked, B_check_asked, c1, c2, c4]
  · simp [F_check_places, B_check_places, la, m1, lt]
theorem digits_one {x : Int} (h : x.natAbs < 2 ^ 1000) : F_check_digits [.tuple [.int x]] = some .none := by
  have e := digits_row (N := 1) (f := fun _ => x) (by decide) fun _ _ => h
  have l : rowI 1 (fun _ => x) = [.int x] := rfl
  rw [l] at e
  obtain ⟨T, p1, p2⟩ : ∃ T : Int, (powF (.int 10) (.int 50)).bind (fun x => powF x (.int 8)) = some (.int T) ∧ 2 ^ 1000 ≤ T := by
    have a1 : powF (.int 10) (.int 50) = some (.int (10 ^ 50)) := by
      have c : powOk 10 50 = true := powOk_of (by decide) (by decide) (by decide)
      simp only [powF, intF, c, if_true]; rfl
    have a2 : powF (.int (10 ^ 50)) (.int 8) = some (.int ((10 ^ 50) ^ 8)) := by
      have c : powOk (10 ^ 50) 8 = true := cdec_of (by decide +kernel)
      simp only [powF, intF, c, if_true]; rfl
    exact ⟨(10 ^ 50) ^ 8, by rw [a1]; exact a2, by decide +kernel⟩
  obtain ⟨y, x1, x2⟩ := Option.bind_eq_some_iff.mp p1
  have e1 : absF [.int x] = some (.int (x.natAbs : Int)) := by
    have : (if x < 0 then -x else x) = (x.natAbs : Int) := by omega
    simp [absF, this]
  have e2 : ¬ T ≤ (x.natAbs : Int) := by omega
  generalize (x.natAbs : Int) = Z at *
  simp [F_check_digits, B_check_digits, x1, x2, e1, e2, -absF, anyF]
theorem gap_lt {ps : Ps} {A : Nat → Int} {L p B : Nat} (g : Gc ps A L p B) (n : Nat) : (gapOf ps A p n).natAbs < 2 ^ 1000 := by
  have nl : (num ps A p).natAbs < 2 ^ 400 := bq_lt g.h g.s g.pb _
  have m := mul_lt nl (bp_lt g.s n)
  unfold gapOf
  rw [Int.sub_eq_add_neg]
  exact up_lt (add_lt (a := 600) (up_lt (bq_lt g.h g.s g.pb n) (by decide)) (by rw [Int.natAbs_neg]; exact m)) (by decide)
theorem decided_multiple_eq {ps : Ps} {A : Nat → Int} {L p B : Nat} (g : Gc ps A L p B) : F_decided_multiple [.int L, Pd ps, .int p] = some (dueD ps A p (fstB ps A p (B + 1))) := by
  obtain ⟨c1, c2⟩ := asked_eq g
  have c3 := check_carried_eq g.h
  have pt := placed_to_eq g
  have dc := decided_eq g
  have dg : ∀ o, ∃ x : Int, cutA (dueD ps A p o) (some (-1)) none = some (.tuple [.int x]) ∧ F_check_digits [.tuple [.int x]] = some .none := by
    intro o
    cases o with
    | none => exact ⟨num ps A p, rfl, digits_one (up_lt (bq_lt g.h g.s g.pb _) (by decide))⟩
    | some n => exact ⟨gapOf ps A p n, rfl, digits_one (gap_lt g n)⟩
  obtain ⟨x, d1, d2⟩ := dg (fstB ps A p (B + 1))
  generalize dueD ps A p (fstB ps A p (B + 1)) = DD at *
  generalize rowI (p * B + 1) (bp ps A) = R1 at *
  generalize Pd ps = P at *
  have ng : negF (.int 1) = some (.int (-1)) := rfl
  simp [F_decided_multiple, B_decided_multiple, c1, c2, c3, pt, dc, d1, d2, -cutA]
def isM (ps : Ps) (A : Nat → Int) (p : Nat) (o : Option Nat) (x : Int) : Bool := match o with
  | none => decide (num ps A p = x)
  | some _ => false
theorem is_multiple_eq {ps : Ps} {A : Nat → Int} {L p B : Nat} (g : Gc ps A L p B) (x : Int) : F_is_multiple [.int L, Pd ps, .int p, .int x] = some (.bool (isM ps A p (fstB ps A p (B + 1)) x)) := by
  obtain ⟨c1, c2⟩ := asked_eq g
  have c3 := check_carried_eq g.h
  have pt := placed_to_eq g
  have dc := decided_eq g
  have ci : F_check_integer [.int x] = some .none := by
    have a : F_is_integer [.int x] = some (.bool true) := rfl
    simp [F_check_integer, B_check_integer, a]
  have eq : ∀ o, eqF false (dueD ps A p o) (.tuple [.str "multiple", .int x]) = some (.bool (isM ps A p o x)) := by
    intro o
    cases o with
    | none =>
      unfold dueD isM
      simp [eqF]
      simp [SeqAt.shaped, PyData.canLay0, PyData.canLayAll0, PyData.depth, PyData.depthAll, PyData.eqv, PyData.eqvAll]
      exact ⟨by decide +kernel, rfl⟩
    | some n =>
      unfold dueD isM
      simp [eqF]
      simp [SeqAt.shaped, PyData.canLay0, PyData.canLayAll0, PyData.depth, PyData.depthAll, PyData.eqv, PyData.eqvAll]
      exact ⟨by decide +kernel, by decide +kernel⟩
  have eq := eq (fstB ps A p (B + 1))
  generalize dueD ps A p (fstB ps A p (B + 1)) = DD at *
  generalize isM ps A p (fstB ps A p (B + 1)) x = BB at *
  generalize rowI (p * B + 1) (bp ps A) = R1 at *
  generalize Pd ps = P at *
  simp [F_is_multiple, B_is_multiple, c1, c2, c3, ci, pt, dc, eq]
end K81

set_option exponentiation.threshold 3000
noncomputable section
namespace K81
open PySem PySem.Spec PyProof.Rows L2 EP FL PSr
theorem weight_eq {ps : Ps} (g : Gp ps) : F_law_weight [Pd ps] = some (.int (wgt ps)) := by
  have l3 := g.len
  have kx : ixF (Pd ps) (.int 1) = some (.tuple (rowsP ps)) := by simp [Pd]
  have a1 : lcGo (gT 2 (gsC (gN 1) (gsC (gN 2) gsN))) xYes (xVar 2) [.dat (Pd ps), .un, .un] (rowsP ps) [] = some (ps.map fun q => .int q.2, []) :=
    lc_rowsP (fun q => .int q.2) ps fun q hq => ⟨_, rfl, by simp⟩
  have ln : (rowsP ps).length ≤ 100000 := by rw [rowsP_length]; omega
  have i1 := intsO_ints (fun q => q.2) ps
  have q := fdivF_of (i := (ps.map fun q => q.2).sum) (j := 2) (divOk_of (by decide) (by decide)) (by decide)
  have e : wgt ps = (ps.map fun q => q.2).sum / 2 := rfl
  rw [e]
  generalize (ps.map fun q => q.2).sum / 2 = Z at *
  simp [F_law_weight, B_law_weight, kx, a1, ln, i1, q, -lcGo, -ixF, -fdivF, -modF]
theorem shift_eq {ps : Ps} (g : Gp ps) (s0 : 0 ≤ Ssum ps / 24) : F_law_shift [Pd ps] = some (.int (shN ps)) := by
  have l3 := g.len
  have kx : ixF (Pd ps) (.int 1) = some (.tuple (rowsP ps)) := by simp [Pd]
  have a1 : lcGo (gT 2 (gsC (gN 1) (gsC (gN 2) gsN))) xYes (xOp mulF (xBo 1) (xBo 2)) [.dat (Pd ps), .un, .un] (rowsP ps) [] = some (ps.map fun q => .int (q.1 * q.2), []) :=
    lc_rowsP (fun q => .int (q.1 * q.2)) ps fun q hq => by
      have := g.ok q hq
      have m1 : mulOk q.1 q.2 = true := mulOk_of (a := 12) (b := 12) (by omega) (by omega)
      exact ⟨_, rfl, by simp [m1, mulF]⟩
  have ln : (rowsP ps).length ≤ 100000 := by rw [rowsP_length]; omega
  have i1 := intsO_ints (fun q => q.1 * q.2) ps
  have q := fdivF_of (i := (ps.map fun q => q.1 * q.2).sum) (j := 24) (divOk_of (by decide) (by decide)) (by decide)
  have e : (shN ps : Int) = (ps.map fun q => q.1 * q.2).sum / 24 := by
    have : Ssum ps / 24 = (ps.map fun q => q.1 * q.2).sum / 24 := rfl
    unfold shN
    omega
  rw [e]
  generalize (ps.map fun q => q.1 * q.2).sum / 24 = Z at *
  simp [F_law_shift, B_law_shift, kx, a1, ln, i1, q, -lcGo, -ixF, -fdivF, -modF]
/-! ### primes of a level -/
def isP (x : Nat) : Bool := (List.range (x - 2)).all fun i => decide (x % (i + 2) ≠ 0)
def prL (L : Nat) : List Nat := ((List.range (L - 1)).map fun i => i + 2).filter fun x => decide (L % x = 0) && isP x
theorem rg2_nl (n : Nat) : rg 2 n = nl ((List.range n).map fun i => i + 2) := by
  unfold rg nl
  rw [List.map_map]
  refine List.map_congr_left fun i _ => ?_
  show PyData.int (2 + (i : Int)) = PyData.int ((i + 2 : Nat) : Int)
  congr 1
  omega
theorem isP_eq {x : Nat} (hx : x ≤ 1000) (s0 : FL.Slot) : lcGo (gN 2) xYes (xOp (eqF true) (xOp modF (xBo 1) (xBo 2)) (xC (.int 0))) [s0, .dat (.int (x : Int)), .un] (rg 2 (x - 2)) [] = some ((List.range (x - 2)).map fun i => .bool (decide (x % (i + 2) ≠ 0)), []) := by
  rw [rg2_nl]
  have gen : ∀ L : List Nat, (∀ i ∈ L, i < 1000) → lcGo (gN 2) xYes (xOp (eqF true) (xOp modF (xBo 1) (xBo 2)) (xC (.int 0))) [s0, .dat (.int (x : Int)), .un] (nl (L.map fun i => i + 2)) [] = some (L.map fun i => .bool (decide (x % (i + 2) ≠ 0)), []) := by
    intro L
    induction L with
    | nil => intro _; rfl
    | cons i L ih =>
      intro hL
      have ih := ih fun y hy => hL y (List.mem_cons_of_mem _ hy)
      have big := hL i List.mem_cons_self
      show lcGo _ _ _ _ (.int ((i + 2 : Nat) : Int) :: nl (L.map fun i => i + 2)) [] = _
      · have m := modN (n := x) (x := i + 2) (by omega) (by omega)
        have e := eqF_int true ((x % (i + 2) : Nat) : Int) 0
        have d : (!decide (((x % (i + 2) : Nat) : Int) = 0)) = decide (x % (i + 2) ≠ 0) := by
          by_cases c : x % (i + 2) = 0
          · simp [c]
          · have : ¬ ((x % (i + 2) : Nat) : Int) = 0 := by omega
            simp only [decide_eq_false this, decide_eq_true c]; rfl
        simp only [if_true] at e
        rw [d] at e
        have s2 : xOp (eqF true) (xOp modF (xBo 1) (xBo 2)) (xC (.int 0)) [s0, .dat (.int (x : Int)), .dat (.int ((i + 2 : Nat) : Int))] [] = some (.bool (decide (x % (i + 2) ≠ 0)), []) := by
          generalize ((i + 2 : Nat) : Int) = Z1 at *
          generalize ((x % (i + 2) : Nat) : Int) = Z2 at *
          generalize decide (x % (i + 2) ≠ 0) = BB at *
          simp [m, e, -modF]
        unfold lcGo
        have s1 : gN 2 (.int ((i + 2 : Nat) : Int)) [s0, .dat (.int (x : Int)), .un] = some [s0, .dat (.int (x : Int)), .dat (.int ((i + 2 : Nat) : Int))] := by simp
        rw [s1]
        simp only [Option.bind_some, xYes, if_true]
        rw [s2]
        simp only [Option.bind_some]
        rw [ih]
        rfl
  exact gen _ fun i hi => by have := List.mem_range.mp hi; omega
theorem all_eq (f : Nat → Bool) (L : List Nat) : allF [.list (L.map fun i => (.bool (f i) : D))] = some (.bool (L.all f)) := by
  show (boolsO _).map _ = _
  rw [bools_list f L]
  show some (PyData.bool _) = _
  rw [List.all_map]; rfl
theorem law_primes_eq {L : Nat} (L0 : 1 ≤ L) (L1 : L ≤ 120) : F_law_primes [.int L] = some (.list (nl (prL L))) := by
  have X := lc_nl (tg := gN 1) (tt := xAnd (xT (xOp (eqF false) (xOp modF (xBo 0) (xBo 1)) (xC (.int 0)))) (xT (xCb allF (aCons (xLc (iR (aCons (xC (.int 2)) (aCons (xBo 1) aNil))) (gN 2) xYes (xOp (eqF true) (xOp modF (xBo 1) (xBo 2)) (xC (.int 0))) [2]) aNil)))) (el := xVar 1) (ρw := [.dat (.int L), .un, .un]) (π := []) (p := fun x => decide (L % x = 0) && isP x) (f := fun x => (x : Int)) ((List.range (L - 1)).map fun i => i + 2) fun x hx => by
    obtain ⟨i, hi, rfl⟩ := List.mem_map.mp hx
    have hi := List.mem_range.mp hi
    clear hx
    have x2 : 2 ≤ i + 2 := by omega
    have x3 : i + 2 ≤ 1000 := by omega
    generalize i + 2 = x at *
    have m := modN (n := L) (x := x) (by omega) (by omega)
    have e := eqF_int false ((L % x : Nat) : Int) 0
    have d : decide (((L % x : Nat) : Int) = 0) = decide (L % x = 0) := by rw [decide_eq_decide]; omega
    simp only [if_false, Bool.false_eq_true] at e
    rw [d] at e
    have P := isP_eq (x := x) x3 (.dat (.int L))
    have al := all_eq (fun i => decide (x % (i + 2) ≠ 0)) (List.range (x - 2))
    have ip : ((List.range (x - 2)).all fun i => decide (x % (i + 2) ≠ 0)) = isP x := rfl
    rw [ip] at al
    have r1 : rgOk (x : Int) = true := rgOk_mk (by omega) (by omega)
    have r0 : rgOk 2 = true := rgOk_mk (by omega) (by omega)
    have t : ((x : Int) - 2).toNat = x - 2 := by omega
    have ln : (rg 2 (x - 2)).length = x - 2 := rg_length _ _
    have xl : x - 2 ≤ 100000 := by omega
    refine ⟨[.dat (.int L), .dat (.int x), .un], rfl, ?_, fun _ => by simp⟩
    generalize ((List.range (x - 2)).map fun i => (.bool (decide (x % (i + 2) ≠ 0)) : D)) = BL at *
    generalize ((L % x : Nat) : Int) = Z2 at *
    generalize isP x = BB at *
    by_cases c : L % x = 0
    · rw [decide_eq_true c] at e ⊢
      simp [m, e, r1, r0, t, ln, xl, P, al, -modF, -lcGo, -allF]
    · rw [decide_eq_false c] at e ⊢
      simp [m, e, -modF]
  have rn := rg2_nl (L - 1)
  rw [← rn] at X
  have X : lcGo _ _ _ _ _ _ = some (nl (prL L), []) := X
  have ad : addF (.int (L : Int)) (.int 1) = some (.int ((L : Int) + 1)) := rfl
  have r1 : rgOk ((L : Int) + 1) = true := rgOk_mk (by omega) (by omega)
  have r0 : rgOk 2 = true := rgOk_mk (by omega) (by omega)
  have t : ((L : Int) + 1 - 2).toNat = L - 1 := by omega
  have ln : (rg 2 (L - 1)).length = L - 1 := rg_length _ _
  have xl : L - 1 ≤ 100000 := by omega
  generalize nl (prL L) = R at *
  simp [F_law_primes, B_law_primes, r1, r0, t, ln, xl, X, -lcGo, -modF, -allF]
end K81

set_option exponentiation.threshold 3000
noncomputable section
namespace K81
open PySem PySem.Spec PyProof.Rows L2 EP FL PSr
/-! ### the greatest place, the law's way -/
def lix : List Nat → Int → Int
  | [], a => a
  | p :: r, a => lix r (a / (p : Int) * ((p : Int) + 1))
theorem lix_loop (X Y : FL.Slot) : ∀ (r : List Nat) (a : Int) (B : Nat) (c3 : FL.Slot), (∀ p ∈ r, 1 ≤ p ∧ p < 1000) → a.natAbs < 2 ^ B → 0 < B → B + 10 * r.length ≤ 2000 → c3.isOwn = false → ∃ c3' : FL.Slot,
    forGo (gN 3) B_law_asked_b1 (nl r) [X, Y, .dat (.int a), c3] [] = some ([X, Y, .dat (.int (lix r a)), c3'], [], .nx)
  | [], a, B, c3, _, _, _, _, _ => ⟨c3, rfl⟩
  | p :: r, a, B, c3, ok, hb, B0, hB, h3 => by
    have o1 := ok p List.mem_cons_self
    rw [List.length_cons] at hB
    have q := fdivF_of (i := a) (j := (p : Int)) (divOk_of (by omega) (by omega)) (by omega)
    have le : (a / (p : Int)).natAbs ≤ a.natAbs := Int.natAbs_ediv_le_natAbs _ _
    have qb : ((p : Int) + 1).natAbs < 2 ^ 10 := by omega
    have m := mulF_of (i := a / (p : Int)) (j := (p : Int) + 1) (mulOk_of (a := B) (b := 10) (by omega) qb B0 (by decide) (by omega))
    have nb : (a / (p : Int) * ((p : Int) + 1)).natAbs < 2 ^ (B + 10) := by
      rw [Int.natAbs_mul, Nat.pow_add]
      exact Nat.mul_lt_mul'' (by omega) qb
    obtain ⟨c3', ih⟩ := lix_loop X Y r (a / (p : Int) * ((p : Int) + 1)) (B + 10) (.dat (.int (p : Int))) (fun x hx => ok x (List.mem_cons_of_mem _ hx)) nb (by omega) (by omega) rfl
    refine ⟨c3', ?_⟩
    have e : lix (p :: r) a = lix r (a / (p : Int) * ((p : Int) + 1)) := rfl
    rw [e]
    show forGo _ _ (.int (p : Int) :: nl r) _ [] = _
    unfold forGo
    have b : B_law_asked_b1 [X, Y, .dat (.int a), .dat (.int (p : Int))] [] = some ([X, Y, .dat (.int (a / (p : Int) * ((p : Int) + 1))), .dat (.int (p : Int))], [], .nx) := by
      have ad : addF (.int (p : Int)) (.int 1) = some (.int ((p : Int) + 1)) := rfl
      generalize (p : Int) + 1 = P1 at *
      generalize a / (p : Int) = A at *
      simp [B_law_asked_b1, q, m, ad, -fdivF, -addF]
    simp [h3, b, ih, -forGo]
theorem prL_mem {L x : Nat} (h : x ∈ prL L) : 2 ≤ x ∧ x ≤ L := by
  unfold prL at h
  obtain ⟨i, hi, rfl⟩ := List.mem_map.mp (List.mem_filter.mp h).1
  have := List.mem_range.mp hi
  omega
theorem prL_length (L : Nat) : (prL L).length ≤ L := by
  unfold prL
  have := List.length_filter_le (fun x => decide (L % x = 0) && isP x) ((List.range (L - 1)).map fun i => i + 2)
  rw [List.length_map, List.length_range] at this
  omega
theorem law_asked_eq {ps : Ps} {L : Nat} {B : Int} (g : Gp ps) (w : 1 ≤ wgt ps ∧ wgt ps ≤ 24) (L0 : 1 ≤ L) (L1 : L ≤ 23) (ib : (lix (prL L) L).natAbs < 1000) (e : wgt ps * lix (prL L) L / 12 = B) : F_law_asked [.int L, Pd ps] = some (.int B) := by
  have pr := law_primes_eq L0 (show L ≤ 120 by omega)
  have we := weight_eq g
  have pl := prL_length L
  obtain ⟨c3, lp⟩ := lix_loop (.dat (.int (L : Int))) (.dat (Pd ps)) (prL L) L 10 .un (fun p hp => by have := prL_mem hp; omega) (by omega) (by decide) (by omega) rfl
  have ln : (nl (prL L)).length ≤ 100000 := by rw [nl_length]; omega
  generalize lix (prL L) L = I at *
  have m := mulF_of (i := wgt ps) (j := I) (mulOk_of (a := 12) (b := 12) (by omega) (by omega))
  have q := fdivF_of (i := wgt ps * I) (j := 12) (divOk_of (by decide) (by decide)) (by decide)
  rw [e] at q
  generalize wgt ps * I = Z at *
  generalize nl (prL L) = R at *
  generalize Pd ps = P at *
  generalize wgt ps = W at *
  simp [F_law_asked, B_law_asked, pr, ln, lp, we, m, q, -fdivF, -forGo]
/-! ### the symbol, the law's way -/
def lsym (x : Int) (p : Nat) : Int := if x % p = 0 then 0 else if ((List.range (p - 1)).any fun i => decide ((((i + 1) * (i + 1) % p : Nat) : Int) = x % p)) = true then 1 else -1
theorem rowI_ints (N : Nat) (f : Nat → Int) : rowI N f = ((List.range N).map f).map PyData.int := by
  unfold rowI
  rw [List.map_map]; rfl
theorem shp_row (N : Nat) (f : Nat → Int) : SeqAt.shaped (.list (rowI N f)) = true := by
  rw [rowI_ints]; exact shp_ints _
theorem in_row (a : Int) (N : Nat) (f : Nat → Int) : inF (.int a) (.list (rowI N f)) = some (.bool ((List.range N).any fun i => decide (f i = a))) := by
  have s1 : SeqAt.shaped (.int a) = true := rfl
  have s2 := shp_row N f
  unfold inF
  simp only [s1, s2, and_self, if_true]
  unfold rowI
  rw [List.any_map]
  congr 3
theorem law_symbol_eq {x : Int} {p : Nat} (p3 : 3 ≤ p) (pb : p ≤ 97) : F_law_symbol [.int x, .int p] = some (.int (lsym x p)) := by
  have m := modF_of (i := x) (j := (p : Int)) (divOk_of (by omega) (by omega)) (by omega)
  have L := lcGo_rg (tg := gN 3) (tt := xYes) (el := xOp modF (xOp mulF (xBo 3) (xBo 3)) (xBo 1)) (ρw := [.dat (.int x), .dat (.int p), .dat (.int (x % p)), .un]) (π := []) 1 (p - 1) (fun i => (((i + 1) * (i + 1) % p : Nat) : Int)) fun i hi => by
    have e1 : 1 + (i : Int) = ((i + 1 : Nat) : Int) := by omega
    rw [e1]
    have mm := mulF_of (i := ((i + 1 : Nat) : Int)) (j := ((i + 1 : Nat) : Int)) (mulOk_of (a := 12) (b := 12) (by omega) (by omega))
    rw [show ((i + 1 : Nat) : Int) * ((i + 1 : Nat) : Int) = (((i + 1) * (i + 1) : Nat) : Int) by push_cast; rfl] at mm
    have md := modN (n := (i + 1) * (i + 1)) (x := p) (by omega) (by omega)
    refine ⟨[.dat (.int x), .dat (.int p), .dat (.int (x % p)), .dat (.int ((i + 1 : Nat) : Int))], rfl, rfl, ?_⟩
    generalize ((i + 1 : Nat) : Int) = Z1 at *
    generalize (((i + 1) * (i + 1) : Nat) : Int) = Z2 at *
    generalize (((i + 1) * (i + 1) % p : Nat) : Int) = Z3 at *
    simp [mm, md, -modF]
  have L : lcGo (gN 3) xYes (xOp modF (xOp mulF (xBo 3) (xBo 3)) (xBo 1)) [.dat (.int x), .dat (.int p), .dat (.int (x % p)), .un] (rg 1 (p - 1)) [] = _ := L
  have inn := in_row (x % p) (p - 1) fun i => (((i + 1) * (i + 1) % p : Nat) : Int)
  have e0 := eqF_int false (x % p) 0
  have r1 : rgOk (p : Int) = true := rgOk_mk (by omega) (by omega)
  have r0 : rgOk 1 = true := rgOk_mk (by omega) (by omega)
  have t : ((p : Int) - 1).toNat = p - 1 := by omega
  have ln : (rg 1 (p - 1)).length = p - 1 := rg_length _ _
  have n1 : p - 1 ≤ 100000 := by omega
  unfold lsym
  generalize (rowI (p - 1) fun i => (((i + 1) * (i + 1) % p : Nat) : Int)) = R at *
  generalize ((List.range (p - 1)).any fun i => decide ((((i + 1) * (i + 1) % p : Nat) : Int) = x % p)) = AB at *
  by_cases c : x % p = 0
  · rw [if_pos c]
    rw [c] at m
    have e0 := eqF_int false 0 0
    simp [F_law_symbol, B_law_symbol, m, e0, -modF, -inF]
  · rw [if_neg c]
    have ne : decide (x % p = 0) = false := decide_eq_false c
    rw [ne] at e0
    generalize x % p = Z at *
    cases AB <;> simp [F_law_symbol, B_law_symbol, m, e0, r1, r0, t, ln, n1, L, inn, -modF, -inF, -lcGo]
/-! ### due -/
theorem law_due_loop {N K : Nat} {B : Int} {ps : Ps} {A : Nat → Int} {L p : Nat} (h : Gl ps L) (s : Ser ps A) (pb : p ≤ 97) (hN : N ≤ 1000) (hK : K ≤ N) (X : FL.Slot) : ∀ (r : List Nat), (∀ i ∈ r, i < K) → ∀ c5 c6 : FL.Slot, c5.isOwn = false → c6.isOwn = false →
    ∃ ρ', forGo (gN 5) B_law_due_b1 (nl r) [.dat (.list (rowI N (bp ps A))), .dat (.list (rowI K (bq ps A p))), X, .dat (.int B), .dat (.int (num ps A p)), c5, c6] [] = some (ρ', [], match r.find? (fun n => decide (bq ps A p n ≠ num ps A p * bp ps A n)) with | some n => .rt (if (n : Int) ≤ B then .tuple [.str "place", .int (n : Nat), .int (gapOf ps A p n)] else .none) | none => .nx) ∧ (r.find? (fun n => decide (bq ps A p n ≠ num ps A p * bp ps A n)) = none → ∃ c5 c6, ρ' = [.dat (.list (rowI N (bp ps A))), .dat (.list (rowI K (bq ps A p))), X, .dat (.int B), .dat (.int (num ps A p)), c5, c6])
  | [], _, c5, c6, _, _ => ⟨_, rfl, fun _ => ⟨c5, c6, rfl⟩⟩
  | i :: r, hr, c5, c6, h5, h6 => by
    obtain ⟨ρ', ih, ih2⟩ := law_due_loop (B := B) h s pb hN hK X r (fun j hj => hr j (List.mem_cons_of_mem _ hj)) (.dat (.int (i : Int))) (.dat (.int (gapOf ps A p i))) rfl rfl
    have hi := hr i List.mem_cons_self
    have a1 : ixF (.list (rowI N (bp ps A))) (.int (i : Int)) = some (.int (bp ps A i)) := by
      have : atI (rowI N (bp ps A)) (i : Int) = some (.int (bp ps A i)) := by rw [rowI_at (by omega) (by omega)]; rfl
      simpa [ixF] using this
    have a2 : ixF (.list (rowI K (bq ps A p))) (.int (i : Int)) = some (.int (bq ps A p i)) := by
      have : atI (rowI K (bq ps A p)) (i : Int) = some (.int (bq ps A p i)) := by rw [rowI_at (by omega) (by omega)]; rfl
      simpa [ixF] using this
    have nl1 : (num ps A p).natAbs < 2 ^ 400 := bq_lt h s pb _
    have m := mulF_of (i := num ps A p) (j := bp ps A i) (mulOk_of (a := 400) (b := 200) nl1 (bp_lt s i))
    have sb : subF (.int (bq ps A p i)) (.int (num ps A p * bp ps A i)) = some (.int (gapOf ps A p i)) := rfl
    have gz : gapOf ps A p i = 0 ↔ bq ps A p i = num ps A p * bp ps A i := by unfold gapOf; omega
    have eq := eqF_int true (gapOf ps A p i) 0
    show ∃ ρ', forGo _ _ (.int (i : Int) :: nl r) _ [] = _ ∧ _
    by_cases z : gapOf ps A p i = 0
    · have z2 := gz.mp z
      have e1 : (i :: r).find? (fun n => decide (bq ps A p n ≠ num ps A p * bp ps A n)) = r.find? (fun n => decide (bq ps A p n ≠ num ps A p * bp ps A n)) := by
        rw [List.find?_cons_of_neg]; simp [z2]
      rw [e1]
      refine ⟨ρ', ?_, ih2⟩
      rw [← ih]
      rw [decide_eq_true z] at eq
      generalize gapOf ps A p i = G at *
      generalize num ps A p * bp ps A i = Z at *
      generalize num ps A p = W at *
      generalize rowI N (bp ps A) = R at *
      generalize rowI K (bq ps A p) = R2 at *
      generalize nl r = LL at *
      rw [forGo]
      simp [h5, h6, B_law_due_b1, a1, a2, m, sb, eq, -ixF, -forGo, -subF]
    · have z2 : ¬ _ := fun w => z (gz.mpr w)
      have e1 : (i :: r).find? (fun n => decide (bq ps A p n ≠ num ps A p * bp ps A n)) = some i := by
        rw [List.find?_cons_of_pos]; simp [z2]
      rw [e1]
      rw [decide_eq_false z] at eq
      generalize hG : gapOf ps A p i = G at *
      generalize num ps A p * bp ps A i = Z at *
      generalize num ps A p = W at *
      generalize rowI N (bp ps A) = R at *
      generalize rowI K (bq ps A p) = R2 at *
      generalize nl r = LL at *
      rw [forGo]
      by_cases cB : (i : Int) ≤ B
      · simp [h5, h6, B_law_due_b1, a1, a2, m, sb, eq, cB, hG, -ixF, -forGo, -subF]
      · simp [h5, h6, B_law_due_b1, a1, a2, m, sb, eq, cB, hG, -ixF, -forGo, -subF]
theorem law_due_eq {ps : Ps} {A : Nat → Int} {L p B : Nat} (g : Gc ps A L p B) {N : Nat} (hN : N ≤ 1000) (hK : B + 3 ≤ N) : F_law_due [.list (rowI N (bp ps A)), .list (rowI (B + 3) (bq ps A p)), .int (shN ps), .int B] = some (dueD ps A p (fstB ps A p (B + 1))) := by
  have sh := g.sh
  obtain ⟨ρ', e, e2⟩ := law_due_loop (N := N) (K := B + 3) (B := (B : Int)) g.h g.s g.pb hN hK (.dat (.int (shN ps : Int))) (List.range (B + 3)) (fun i hi => List.mem_range.mp hi) .un .un rfl rfl
  have fB := g.fb
  have ef : (List.range (B + 3)).find? (fun n => decide (bq ps A p n ≠ num ps A p * bp ps A n)) = fstB ps A p (B + 1) := by rw [← fB]; rfl
  rw [ef] at e e2
  have rz : rg 0 (B + 3) = nl (List.range (B + 3)) := by
    unfold rg nl
    refine List.map_congr_left fun i _ => ?_
    show PyData.int (0 + (i : Int)) = _
    rw [Int.zero_add]
  rw [← rz] at e
  have ix : ixF (.list (rowI (B + 3) (bq ps A p))) (.int (shN ps : Int)) = some (.int (num ps A p)) := by
    have : atI (rowI (B + 3) (bq ps A p)) (shN ps : Int) = some (.int (num ps A p)) := by rw [rowI_at (by omega) (by omega)]; rfl
    simpa [ixF] using this
  have lf : lenF [.list (rowI (B + 3) (bq ps A p))] = some (.int ((B + 3 : Nat) : Int)) := by simp [lenF, rowI]
  have r1 := rgOk_nat (N := B + 3) (by have := g.hK; have := g.p3; have : 3 * (B + 3) ≤ p * (B + 3) := Nat.mul_le_mul_right _ this; omega)
  have t : (((B + 3 : Nat) : Int)).toNat = B + 3 := by omega
  cases o : fstB ps A p (B + 1) with
  | none =>
    rw [o] at e e2
    obtain ⟨c5, c6, rfl⟩ := e2 rfl
    unfold dueD
    generalize num ps A p = W at *
    generalize rowI N (bp ps A) = R at *
    generalize rowI (B + 3) (bq ps A p) = R2 at *
    generalize ((B + 3 : Nat) : Int) = Z1 at *
    simp [F_law_due, B_law_due, ix, lf, r1, t, e, -ixF, -forGo, -lenF]
  | some n =>
    rw [o] at e e2
    have nB := fb_lt o
    have le : (n : Int) ≤ (B : Int) := by omega
    have e : forGo (gN 5) B_law_due_b1 (rg 0 (B + 3)) [.dat (.list (rowI N (bp ps A))), .dat (.list (rowI (B + 3) (bq ps A p))), .dat (.int (shN ps : Int)), .dat (.int (B : Int)), .dat (.int (num ps A p)), .un, .un] [] = some (ρ', [], .rt (if (n : Int) ≤ (B : Int) then .tuple [.str "place", .int (n : Nat), .int (gapOf ps A p n)] else .none)) := e
    rw [if_pos le] at e
    unfold dueD
    generalize num ps A p = W at *
    generalize rowI N (bp ps A) = R at *
    generalize rowI (B + 3) (bq ps A p) = R2 at *
    generalize ((B + 3 : Nat) : Int) = Z1 at *
    simp [F_law_due, B_law_due, ix, lf, r1, t, e, -ixF, -forGo, -lenF]
end K81

set_option exponentiation.threshold 3000
noncomputable section
namespace K81
open PySem PySem.Spec PyProof.Rows L2 EP FL PSr
/-! ### the sign, the law's way -/
def dvs : Nat → Nat → Nat → Int → Int → Nat × Int
  | 0, n, _, o, _ => (n, o)
  | f + 1, n, p, o, x => if n % p = 0 then dvs f (n / p) p (o + x) x else (n, o)
theorem dvs_loop {p : Nat} (p2 : 2 ≤ p) (pb : p < 1000) (s0 s1 s2 s5 : FL.Slot) (x : Int) : ∀ (f F n : Nat) (o : Int), 0 < n → n < f → n < F → n < 100000 → whGo B_law_sign_c1 B_law_sign_w1 F [s0, s1, s2, .dat (.int (p : Int)), .dat (.int o), s5, .dat (.int x), .dat (.int (n : Int))] [] = some ([s0, s1, s2, .dat (.int (p : Int)), .dat (.int (dvs f n p o x).2), s5, .dat (.int x), .dat (.int ((dvs f n p o x).1 : Int))], [], .nx)
  | 0, F, n, o, _, h, _, _ => by omega
  | f + 1, 0, n, o, _, _, h, _ => by omega
  | f + 1, F + 1, n, o, n0, h1, h2, nb => by
    have m := modN (n := n) (x := p) (by omega) (by omega)
    have e := eqN (n % p) 0
    simp only [Int.natCast_zero] at e
    have hc : B_law_sign_c1 [s0, s1, s2, .dat (.int (p : Int)), .dat (.int o), s5, .dat (.int x), .dat (.int (n : Int))] [] = some (n % p == 0, []) := by
      generalize ((n % p : Nat) : Int) = Z at *
      simp [B_law_sign_c1, m, e, -modF]
    by_cases c : n % p = 0
    · have q := divN (n := n) (x := p) (by omega) (by omega)
      have lt : n / p < n := Nat.div_lt_self n0 (by omega)
      have d0 : 0 < n / p := Nat.div_pos (Nat.le_of_dvd n0 (Nat.dvd_of_mod_eq_zero c)) (by omega)
      rw [show (n % p == 0) = true by simp [c]] at hc
      have hw : B_law_sign_w1 [s0, s1, s2, .dat (.int (p : Int)), .dat (.int o), s5, .dat (.int x), .dat (.int (n : Int))] [] = some ([s0, s1, s2, .dat (.int (p : Int)), .dat (.int (o + x)), s5, .dat (.int x), .dat (.int ((n / p : Nat) : Int))], [], .nx) := by
        have ad : addF (.int o) (.int x) = some (.int (o + x)) := rfl
        generalize ((n / p : Nat) : Int) = Z at *
        generalize o + x = Y at *
        simp [B_law_sign_w1, q, ad, -fdivF, -addF]
      rw [wh_yes hc hw]
      have ei : dvs (f + 1) n p o x = dvs f (n / p) p (o + x) x := by show (if n % p = 0 then _ else _) = _; rw [if_pos c]
      rw [ei]
      exact dvs_loop p2 pb s0 s1 s2 s5 x f F (n / p) (o + x) d0 (by omega) (by omega) (by omega)
    · rw [show (n % p == 0) = false by simp [c]] at hc
      rw [wh_no hc]
      have ei : dvs (f + 1) n p o x = (n, o) := by show (if n % p = 0 then _ else _) = _; rw [if_neg c]
      rw [ei]
def ofn (p : Nat) : Ps → Int → Int
  | [], o => o
  | q :: ps, o => ofn p ps (dvs 30 (sN q) p o q.2).2
theorem ofn_loop {p : Nat} (p2 : 2 ≤ p) (pb : p < 1000) (s0 s1 s2 : FL.Slot) : ∀ (ps : Ps) (o : Int) (c5 c6 c7 : FL.Slot), (∀ q ∈ ps, 1 ≤ sN q ∧ sN q ≤ 23 ∧ q.1 = (sN q : Int) ∧ q.2.natAbs ≤ 60) → c5.isOwn = false → c6.isOwn = false → c7.isOwn = false → ∃ c5' c6' c7' : FL.Slot, c5'.isOwn = false ∧ c6'.isOwn = false ∧ c7'.isOwn = false ∧
    forGo (gT 2 (gsC (gN 5) (gsC (gN 6) gsN))) B_law_sign_b1 (rowsP ps) [s0, s1, s2, .dat (.int (p : Int)), .dat (.int o), c5, c6, c7] [] = some ([s0, s1, s2, .dat (.int (p : Int)), .dat (.int (ofn p ps o)), c5', c6', c7'], [], .nx)
  | [], o, c5, c6, c7, _, h5, h6, h7 => ⟨c5, c6, c7, h5, h6, h7, rfl⟩
  | q :: ps, o, c5, c6, c7, h, h5, h6, h7 => by
    obtain ⟨q1, q2, q3, q4⟩ := h q List.mem_cons_self
    have w := dvs_loop p2 pb s0 s1 s2 (.dat (.int q.1)) q.2 30 10000000 (sN q) o (by omega) (by omega) (by omega) (by omega)
    obtain ⟨c5', c6', c7', i5, i6, i7, ih⟩ := ofn_loop p2 pb s0 s1 s2 ps (dvs 30 (sN q) p o q.2).2 (.dat (.int q.1)) (.dat (.int q.2)) (.dat (.int ((dvs 30 (sN q) p o q.2).1 : Int))) (fun r hr => h r (List.mem_cons_of_mem _ hr)) rfl rfl rfl
    refine ⟨c5', c6', c7', i5, i6, i7, ?_⟩
    have eo : ofn p (q :: ps) o = ofn p ps (dvs 30 (sN q) p o q.2).2 := rfl
    rw [eo]
    rw [← q3] at w
    have b : B_law_sign_b1 [s0, s1, s2, .dat (.int (p : Int)), .dat (.int o), .dat (.int q.1), .dat (.int q.2), c7] [] = some ([s0, s1, s2, .dat (.int (p : Int)), .dat (.int (dvs 30 (sN q) p o q.2).2), .dat (.int q.1), .dat (.int q.2), .dat (.int ((dvs 30 (sN q) p o q.2).1 : Int))], [], .nx) := by
      rw [← w]
      generalize q.1 = Q1 at *
      generalize q.2 = Q2 at *
      simp [B_law_sign_b1, h7, -whGo]
    show forGo _ _ (.tuple [.int q.1, .int q.2] :: rowsP ps) _ [] = _
    unfold forGo
    generalize (dvs 30 (sN q) p o q.2).2 = Y1 at *
    generalize ((dvs 30 (sN q) p o q.2).1 : Int) = Y2 at *
    simp [h5, h6, b, ih, -forGo]
def sgl (ps : Ps) : List Nat → Int → Int
  | [], a => a
  | p :: r, a => sgl ps r (if ofn p ps 0 % 2 = 1 then a * (p : Int) else a)
theorem sgl_loop {ps : Ps} (g : Gp ps) (s0 : FL.Slot) : ∀ (r : List Nat) (a : Int) (B : Nat) (c3 c4 c5 c6 c7 : FL.Slot), (∀ p ∈ r, 2 ≤ p ∧ p < 1000) → a.natAbs < 2 ^ B → 0 < B → B + 10 * r.length ≤ 2000 → c3.isOwn = false → c4.isOwn = false → c5.isOwn = false → c6.isOwn = false → c7.isOwn = false → ∃ c3' c4' c5' c6' c7' : FL.Slot,
    forGo (gN 3) B_law_sign_b2 (nl r) [s0, .dat (Pd ps), .dat (.int a), c3, c4, c5, c6, c7] [] = some ([s0, .dat (Pd ps), .dat (.int (sgl ps r a)), c3', c4', c5', c6', c7'], [], .nx)
  | [], a, B, c3, c4, c5, c6, c7, _, _, _, _, _, _, _, _, _ => ⟨c3, c4, c5, c6, c7, rfl⟩
  | p :: r, a, B, c3, c4, c5, c6, c7, ok, hb, B0, hB, h3, h4, h5, h6, h7 => by
    have o1 := ok p List.mem_cons_self
    rw [List.length_cons] at hB
    have l4 := g.len
    have kx : ixF (Pd ps) (.int 1) = some (.tuple (rowsP ps)) := by simp [Pd]
    have ln : (rowsP ps).length ≤ 100000 := by rw [rowsP_length]; omega
    obtain ⟨d5, d6, d7, i5, i6, i7, w⟩ := ofn_loop (p := p) o1.1 o1.2 s0 (.dat (Pd ps)) (.dat (.int a)) ps 0 c5 c6 c7 (sN_ok g) h5 h6 h7
    have md := modF_of (i := ofn p ps 0) (j := 2) (divOk_of (by decide) (by decide)) (by decide)
    have eq := eqF_int false (ofn p ps 0 % 2) 1
    have m := mulF_of (i := a) (j := (p : Int)) (mulOk_of (a := B) (b := 10) hb (by omega) B0 (by decide) (by omega))
    have nb : (if ofn p ps 0 % 2 = 1 then a * (p : Int) else a).natAbs < 2 ^ (B + 10) := by
      split
      · rw [Int.natAbs_mul, Nat.pow_add]
        exact Nat.mul_lt_mul'' hb (by omega)
      · exact Nat.lt_of_lt_of_le hb (Nat.pow_le_pow_right (by decide) (by omega))
    obtain ⟨c3', c4', c5', c6', c7', ih⟩ := sgl_loop g s0 r (if ofn p ps 0 % 2 = 1 then a * (p : Int) else a) (B + 10) (.dat (.int (p : Int))) (.dat (.int (ofn p ps 0))) d5 d6 d7 (fun x hx => ok x (List.mem_cons_of_mem _ hx)) nb (by omega) (by omega) rfl rfl i5 i6 i7
    refine ⟨c3', c4', c5', c6', c7', ?_⟩
    have eo : sgl ps (p :: r) a = sgl ps r (if ofn p ps 0 % 2 = 1 then a * (p : Int) else a) := rfl
    rw [eo]
    have b : B_law_sign_b2 [s0, .dat (Pd ps), .dat (.int a), .dat (.int (p : Int)), c4, c5, c6, c7] [] = some ([s0, .dat (Pd ps), .dat (.int (if ofn p ps 0 % 2 = 1 then a * (p : Int) else a)), .dat (.int (p : Int)), .dat (.int (ofn p ps 0)), d5, d6, d7], [], .nx) := by
      generalize rowsP ps = R at *
      generalize ofn p ps 0 = O at *
      generalize a * (p : Int) = AP at *
      by_cases c : O % 2 = 1
      · rw [if_pos c]
        rw [decide_eq_true c] at eq
        generalize O % 2 = Z at *
        generalize Pd ps = P at *
        simp [B_law_sign_b2, h4, kx, ln, w, md, eq, m, -modF, -forGo, -ixF]
      · rw [if_neg c]
        rw [decide_eq_false c] at eq
        generalize O % 2 = Z at *
        generalize Pd ps = P at *
        simp [B_law_sign_b2, h4, kx, ln, w, md, eq, m, -modF, -forGo, -ixF]
    show forGo _ _ (.int (p : Int) :: nl r) _ [] = _
    unfold forGo
    generalize (if ofn p ps 0 % 2 = 1 then a * (p : Int) else a) = Y at *
    generalize Pd ps = P at *
    simp [h3, b, ih, -forGo]
def lsgn (ps : Ps) (L : Nat) : Int := sgl ps (prL L) (if wgt ps % 2 = 0 then 1 else -1)
theorem law_sign_eq {ps : Ps} {L : Nat} (g : Gp ps) (L0 : 1 ≤ L) (L1 : L ≤ 23) : F_law_sign [.int L, Pd ps] = some (.int (lsgn ps L)) := by
  have pr := law_primes_eq L0 (show L ≤ 120 by omega)
  have we := weight_eq g
  have pl := prL_length L
  have md := modF_of (i := wgt ps) (j := 2) (divOk_of (by decide) (by decide)) (by decide)
  have eq := eqF_int false (wgt ps % 2) 0
  have ln : (nl (prL L)).length ≤ 100000 := by rw [nl_length]; omega
  obtain ⟨c3, c4, c5, c6, c7, w0⟩ := sgl_loop g (.dat (.int (L : Int))) (prL L) (if wgt ps % 2 = 0 then 1 else -1) 10 .un .un .un .un .un (fun p hp => by have := prL_mem hp; omega) (by split <;> decide) (by decide) (by omega) rfl rfl rfl rfl rfl
  have w : forGo (gN 3) B_law_sign_b2 (nl (prL L)) [.dat (.int (L : Int)), .dat (Pd ps), .dat (.int (if wgt ps % 2 = 0 then 1 else -1)), .un, .un, .un, .un, .un] [] = some ([.dat (.int (L : Int)), .dat (Pd ps), .dat (.int (lsgn ps L)), c3, c4, c5, c6, c7], [], .nx) := w0
  clear w0
  generalize lsgn ps L = Y at *
  generalize nl (prL L) = R at *
  generalize Pd ps = P at *
  by_cases c : wgt ps % 2 = 0
  · rw [if_pos c] at w
    rw [decide_eq_true c] at eq
    generalize wgt ps % 2 = Z at *
    generalize wgt ps = W at *
    simp [F_law_sign, B_law_sign, we, md, eq, pr, ln, w, -modF, -forGo]
  · rw [if_neg c] at w
    rw [decide_eq_false c] at eq
    generalize wgt ps % 2 = Z at *
    generalize wgt ps = W at *
    simp [F_law_sign, B_law_sign, we, md, eq, pr, ln, w, -modF, -forGo]
/-! ### carried, the law's way -/
theorem law_carried_eq {ps : Ps} {A : Nat → Int} {L p B : Nat} (g : Gc ps A L p B) (sy : lsym (sgn ps) p = sym (sgn ps) p) : F_law_carried [Pd ps, .int (sgn ps), .int p, .list (rowI (p * (B + 3)) (bp ps A)), .int ((B + 3 : Nat) : Int)] = some (.list (rowI (B + 3) (bq ps A p))) := by
  have p3 := g.p3
  have pb := g.pb
  have hK := g.hK
  obtain ⟨_, _, _, _, _, w, _⟩ := g.h.all
  have we := weight_eq g.h.g
  have ls := law_symbol_eq (x := sgn ps) g.p3 g.pb
  rw [sy] at ls
  have LP := forGo_inv (tg := gN 7) (b := B_law_carried_b1) (fun i ρ π2 => ∃ c7 : FL.Slot, ρ = [.dat (Pd ps), .dat (.int (sgn ps)), .dat (.int p), .dat (.list (rowI (p * (B + 3)) (bp ps A))), .dat (.int ((B + 3 : Nat) : Int)), .dat (.int (sym (sgn ps) p)), .dat (.int ((p : Int) ^ i)), c7, .un] ∧ π2 = [] ∧ c7.isOwn = false) (rg 0 ((wgt ps).toNat - 1)) (by
    rintro i dd ρ π2 hd ⟨c7, rfl, rfl, h7⟩
    obtain ⟨li, rfl⟩ := rg_get hd
    have pl : ((p : Int) ^ i).natAbs < 2 ^ 170 := by
      have a : p ^ i ≤ 97 ^ 24 := Nat.le_trans (Nat.pow_le_pow_left pb i) (Nat.pow_le_pow_right (by decide) (by omega))
      rw [Int.natAbs_pow, Int.natAbs_natCast]
      exact Nat.lt_of_le_of_lt a (by decide +kernel)
    have m := mulF_of (i := (p : Int) ^ i) (j := (p : Int)) (mulOk_of (a := 170) (b := 10) pl (by omega))
    rw [← Int.pow_succ] at m
    refine ⟨[.dat (Pd ps), .dat (.int (sgn ps)), .dat (.int p), .dat (.list (rowI (p * (B + 3)) (bp ps A))), .dat (.int ((B + 3 : Nat) : Int)), .dat (.int (sym (sgn ps) p)), .dat (.int ((p : Int) ^ i)), .dat (.int (0 + i)), .un], _, [], by simp [h7], .inl ?_, .dat (.int (0 + i)), rfl, rfl, rfl⟩
    generalize (p : Int) ^ i = Z1 at *
    generalize (p : Int) ^ (i + 1) = Z2 at *
    generalize rowI (p * (B + 3)) (bp ps A) = R at *
    simp [B_law_carried_b1, m]) (ρ := [.dat (Pd ps), .dat (.int (sgn ps)), .dat (.int p), .dat (.list (rowI (p * (B + 3)) (bp ps A))), .dat (.int ((B + 3 : Nat) : Int)), .dat (.int (sym (sgn ps) p)), .dat (.int 1), .un, .un]) (π := []) ⟨.un, by rw [Int.pow_zero], rfl, rfl⟩
  obtain ⟨ρ', π', e, c7', rfl, rfl, h7'⟩ := LP
  rw [rg_length] at e
  generalize hPW : (p : Int) ^ ((wgt ps).toNat - 1) = PW at *
  have ecf : sym (sgn ps) p * PW = cf ps p := by rw [← hPW]; rfl
  have pl : PW.natAbs < 2 ^ 170 := by
    have a : p ^ ((wgt ps).toNat - 1) ≤ 97 ^ 24 := Nat.le_trans (Nat.pow_le_pow_left pb _) (Nat.pow_le_pow_right (by decide) (by omega))
    rw [← hPW, Int.natAbs_pow, Int.natAbs_natCast]
    exact Nat.lt_of_le_of_lt a (by decide +kernel)
  have sa := sym_abs (sgn ps) p
  have mc := mulF_of (i := sym (sgn ps) p) (j := PW) (mulOk_of (a := 10) (b := 170) (by omega) pl)
  rw [ecf] at mc
  have cl : (cf ps p).natAbs < 2 ^ 170 := pw_lt pb (by omega) (sgn ps)
  have LC := lcGo_rg (tg := gN 8) (tt := xYes) (el := xOp addF (xOp ixF (xBo 3) (xOp mulF (xBo 2) (xBo 8))) (xIf (xT (xOp (eqF false) (xOp modF (xBo 8) (xBo 2)) (xC (.int 0)))) (xOp mulF (xOp mulF (xBo 5) (xBo 6)) (xOp ixF (xBo 3) (xOp fdivF (xBo 8) (xBo 2)))) (xC (.int 0)))) (ρw := [.dat (Pd ps), .dat (.int (sgn ps)), .dat (.int p), .dat (.list (rowI (p * (B + 3)) (bp ps A))), .dat (.int ((B + 3 : Nat) : Int)), .dat (.int (sym (sgn ps) p)), .dat (.int PW), c7', .un]) (π := []) 0 (B + 3) (bq ps A p) fun i hi => by
    have e1 : 0 + (i : Int) = (i : Int) := by omega
    rw [e1]
    have pi : p * i < p * (B + 3) := Nat.mul_lt_mul_of_pos_left hi (by omega)
    have mm := mulF_of (i := (p : Int)) (j := (i : Int)) (mulOk_of (a := 12) (b := 12) (by omega) (by have : i ≤ p * i := Nat.le_mul_of_pos_left _ (by omega); omega))
    rw [show (p : Int) * (i : Int) = ((p * i : Nat) : Int) by push_cast; rfl] at mm
    have md := modN (n := i) (x := p) (by omega) (by omega)
    have dv1 := divN (n := i) (x := p) (by omega) (by omega)
    have dl : i / p ≤ i := Nat.div_le_self _ _
    have il : i ≤ p * i := Nat.le_mul_of_pos_left _ (by omega)
    have a1 : ixF (.list (rowI (p * (B + 3)) (bp ps A))) (.int ((p * i : Nat) : Int)) = some (.int (bp ps A (p * i))) := by
      have : atI (rowI (p * (B + 3)) (bp ps A)) ((p * i : Nat) : Int) = some (.int (bp ps A (p * i))) := by rw [rowI_at (by omega) (by omega)]; rfl
      simpa [ixF] using this
    have eb : bq ps A p i = bp ps A (p * i) + (if i % p = 0 then cf ps p * bp ps A (i / p) else 0) := rfl
    rw [eb]
    clear eb
    generalize i / p = Q at *
    have a2 : ixF (.list (rowI (p * (B + 3)) (bp ps A))) (.int (Q : Int)) = some (.int (bp ps A Q)) := by
      have : atI (rowI (p * (B + 3)) (bp ps A)) (Q : Int) = some (.int (bp ps A Q)) := by rw [rowI_at (by omega) (by omega)]; rfl
      simpa [ixF] using this
    have m2 := mulF_of (i := cf ps p) (j := bp ps A Q) (mulOk_of (a := 170) (b := 200) cl (bp_lt g.s _))
    have eq := eqF_int false ((i % p : Nat) : Int) 0
    refine ⟨[.dat (Pd ps), .dat (.int (sgn ps)), .dat (.int p), .dat (.list (rowI (p * (B + 3)) (bp ps A))), .dat (.int ((B + 3 : Nat) : Int)), .dat (.int (sym (sgn ps) p)), .dat (.int PW), c7', .dat (.int (i : Int))], rfl, rfl, ?_⟩
    generalize rowI (p * (B + 3)) (bp ps A) = R at *
    generalize bp ps A (p * i) = X1 at *
    generalize ((p * i : Nat) : Int) = Z1 at *
    generalize (Q : Int) = Z2 at *
    generalize cf ps p * bp ps A Q = X2 at *
    generalize bp ps A Q = X3 at *
    generalize cf ps p = X4 at *
    generalize sym (sgn ps) p = X5 at *
    by_cases c : i % p = 0
    · rw [if_pos c]
      rw [decide_eq_true (by omega)] at eq
      generalize ((i % p : Nat) : Int) = Z3 at *
      simp [mm, md, a1, a2, dv1, mc, m2, eq, -ixF, -modF, -fdivF]
    · rw [if_neg c]
      rw [decide_eq_false (by omega)] at eq
      generalize ((i % p : Nat) : Int) = Z3 at *
      simp [mm, md, a1, a2, dv1, mc, m2, eq, -ixF, -modF, -fdivF]
  have LC : lcGo _ _ _ _ (rg 0 (B + 3)) [] = _ := LC
  have sb : subF (.int (wgt ps)) (.int 1) = some (.int (wgt ps - 1)) := rfl
  have r1 : rgOk (wgt ps - 1) = true := rgOk_mk (by omega) (by omega)
  have t : (wgt ps - 1).toNat = (wgt ps).toNat - 1 := by omega
  have pk : 3 * (B + 3) ≤ p * (B + 3) := Nat.mul_le_mul_right _ p3
  have r2 := rgOk_nat (N := B + 3) (by omega)
  have t2 : (((B + 3 : Nat) : Int)).toNat = B + 3 := by omega
  have ln : (rg 0 (B + 3)).length = B + 3 := rg_length _ _
  have xl : B + 3 ≤ 100000 := by omega
  generalize rowI (p * (B + 3)) (bp ps A) = R at *
  generalize rowI (B + 3) (bq ps A p) = R2 at *
  generalize ((B + 3 : Nat) : Int) = Z at *
  generalize sym (sgn ps) p = S at *
  generalize Pd ps = P at *
  generalize sgn ps = SG at *
  simp [F_law_carried, B_law_carried, ls, we, r1, t, e, r2, t2, ln, xl, LC, -forGo, -lcGo, -modF, -fdivF, -ixF]
end K81

set_option exponentiation.threshold 3000
noncomputable section
namespace K81
open PySem PySem.Spec PyProof.Rows L2 EP FL PSr
theorem pl_b1 {N d : Nat} (d0 : 0 < d) (hd : d < N) (hN : N ≤ 100) (f : Nat → Int) {p : Int} (hp : p.natAbs ≤ 60) (s0 s1 s3 s4 c6 : FL.Slot) (h6 : c6.isOwn = false) (π : Pot) : ∃ c6' : FL.Slot, c6'.isOwn = false ∧
    forGo (gN 7) B_law_placed_b1 (rg3 d N d) [s0, s1, .own (rowI N f), s3, s4, .dat (.int p), .dat (.int d), c6, .un, .un] π = some ([s0, s1, .own (rowI N fun n => f n - p * dv d n), s3, s4, .dat (.int p), .dat (.int d), c6', .un, .un], π, .nx) := by
  have m := mulF_of (i := (d : Int)) (j := p) (mulOk_of (a := 12) (b := 12) (by omega) (by omega))
  have L := forGo_inv (tg := gN 7) (b := B_law_placed_b1) (fun i ρ π2 => ∃ c6 : FL.Slot, ρ = [s0, s1, .own (rowI N fun n => if n ≤ i * d then f n - p * dv d n else f n), s3, s4, .dat (.int p), .dat (.int d), c6, .un, .un] ∧ π2 = π ∧ c6.isOwn = false) (rg3 d N d) (by
    rintro i dd ρ π2 hx ⟨c6, rfl, rfl, h6⟩
    obtain ⟨li, rfl⟩ := rg3_get hx
    have lt := (n3_lt d0).mp li
    have e0 : (d : Int) + (i : Int) * d = (((i + 1) * d : Nat) : Int) := by push_cast; rw [Int.add_mul]; omega
    rw [e0]
    have e7 : (i + 1) * d = i * d + d := Nat.succ_mul i d
    have pm : (i + 1) * d % d = 0 := Nat.mul_mod_left _ _
    have V0 : 0 < (i + 1) * d := Nat.mul_pos (Nat.succ_pos i) d0
    generalize hV : (i + 1) * d = V at *
    have e1 : atI (rowI N fun n => if n ≤ i * d then f n - p * dv d n else f n) (V : Int) = some (.int (f V)) := by
      rw [rowI_at (by omega) (by omega)]
      rw [show (V : Int).toNat = V by omega, if_neg (by omega)]
    have e1 : ixF (.list (rowI N fun n => if n ≤ i * d then f n - p * dv d n else f n)) (.int (V : Int)) = some (.int (f V)) := by simpa [ixF] using e1
    have e4 : ixN (rowI N fun n => if n ≤ i * d then f n - p * dv d n else f n).length (V : Int) = some V := by
      have : (rowI N fun n => if n ≤ i * d then f n - p * dv d n else f n).length = N := by simp [rowI]
      rw [this]
      exact ixN_of (by omega) (by omega)
    have vV : dv d V = d := by unfold PSr.dv; rw [if_neg (by omega), if_pos pm]
    refine ⟨[s0, s1, .own (rowI N fun n => if n ≤ i * d then f n - p * dv d n else f n), s3, s4, .dat (.int p), .dat (.int d), .dat (.int (V : Int)), .un, .un], [s0, s1, .own ((rowI N fun n => if n ≤ i * d then f n - p * dv d n else f n).set V (.int (f V - d * p))), s3, s4, .dat (.int p), .dat (.int d), .dat (.int (V : Int)), .un, .un], π2, by simp [h6], .inl ?_, .dat (.int (V : Int)), ?_, rfl, rfl⟩
    · generalize (rowI N fun n => if n ≤ i * d then f n - p * dv d n else f n) = R at *
      simp [B_law_placed_b1, e1, e4, m, -ixF]
    · rw [rowI_set]
      have hrow : (rowI N fun n => if n = V then f V - d * p else if n ≤ i * d then f n - p * dv d n else f n) = rowI N fun n => if n ≤ (i + 1) * d then f n - p * dv d n else f n := rowI_congr fun n hn => by
        rw [hV]
        by_cases c : n = V
        · subst c
          rw [if_pos rfl, if_pos (Nat.le_refl _), vV, Int.mul_comm]
        · rw [if_neg c]
          by_cases c2 : n ≤ i * d
          · rw [if_pos c2, if_pos (by omega)]
          · rw [if_neg c2]
            by_cases c3 : n ≤ V
            · rw [if_pos c3]
              have z : dv d n = 0 := by
                unfold PSr.dv
                rw [if_neg (by omega), if_neg]
                intro md
                have e8 := Nat.div_add_mod n d
                rw [md] at e8
                have e9 : d * (n / d) = n / d * d := Nat.mul_comm _ _
                by_cases c4 : n / d ≤ i
                · have := Nat.mul_le_mul_right d c4; omega
                · have := Nat.mul_le_mul_right d (show i + 1 ≤ n / d by omega); omega
              rw [z, Int.mul_zero]; omega
            · rw [if_neg c3]
      rw [hrow, hV]) (ρ := [s0, s1, .own (rowI N f), s3, s4, .dat (.int p), .dat (.int d), c6, .un, .un]) (π := π) ⟨c6, by
        have hrow : (rowI N fun n => if n ≤ 0 * d then f n - p * dv d n else f n) = rowI N f := rowI_congr fun n hn => by
          by_cases c : n ≤ 0 * d
          · rw [if_pos c, show n = 0 by omega, dv_zero, Int.mul_zero]; omega
          · rw [if_neg c]
        rw [hrow], rfl, h6⟩
  obtain ⟨ρ', π', e, c6', rfl, rfl, h6'⟩ := L
  rw [rg3_length] at e
  refine ⟨c6', h6', ?_⟩
  rw [e]
  have hrow : (rowI N fun n => if n ≤ n3 d N d * d then f n - p * dv d n else f n) = rowI N fun n => f n - p * dv d n := rowI_congr fun n hn => by
    by_cases c : n ≤ n3 d N d * d
    · rw [if_pos c]
    · rw [if_neg c]
      have z : dv d n = 0 := by
        unfold PSr.dv
        split
        · rfl
        · rw [if_neg]
          intro md
          have e8 := Nat.div_add_mod n d
          rw [md] at e8
          have e9 : d * (n / d) = n / d * d := Nat.mul_comm _ _
          have q0 : 0 < n / d := by
            rcases Nat.eq_zero_or_pos (n / d) with z | z
            · rw [z, Nat.mul_zero] at e8; omega
            · exact z
          have := (n3_lt (N := N) (k := n / d - 1) d0).mpr (by rw [show n / d - 1 + 1 = n / d by omega]; omega)
          have := Nat.mul_le_mul_right d (show n / d ≤ n3 d N d by omega)
          omega
      rw [z, Int.mul_zero]; omega
  rw [hrow]

theorem pl_b2 {N d : Nat} (d0 : 0 < d) (hd : d < N) (hN : N ≤ 100) (f : Nat → Int) {p : Int} (hp : p.natAbs ≤ 60) (s0 s3 s4 c7 : FL.Slot) (h7 : c7.isOwn = false) (π : Pot) : ∃ c7' : FL.Slot, c7'.isOwn = false ∧
    B_law_placed_b2 [s0, .dat (.int N), .own (rowI N f), s3, s4, .dat (.int p), .dat (.int d), c7, .un, .un] π = some ([s0, .dat (.int N), .own (rowI N fun n => f n - p * dv d n), s3, s4, .dat (.int p), .dat (.int d), c7', .un, .un], π, .nx) := by
  obtain ⟨c7', h7', b⟩ := pl_b1 d0 hd hN f hp s0 (.dat (.int N)) s3 s4 c7 h7 π
  refine ⟨c7', h7', ?_⟩
  have r3 : r3Ok (d : Int) N d = true := cdec_of ⟨⟨by omega, by omega⟩, ⟨by omega, by omega⟩, by omega, by omega, by omega⟩
  generalize (rowI N fun n => f n - p * dv d n) = R1 at *
  generalize rowI N f = R2 at *
  simp [B_law_placed_b2, r3, b, -forGo]
theorem pl_b3 {N s : Nat} (s0 : 0 < s) (s1 : s ≤ 23) (hN : N ≤ 100) (f : Nat → Int) {p : Int} (hp : p.natAbs ≤ 60) (x0 s3 c6 c7 : FL.Slot) (h6 : c6.isOwn = false) (h7 : c7.isOwn = false) (π : Pot) : ∃ c6' c7' : FL.Slot, c6'.isOwn = false ∧ c7'.isOwn = false ∧
    B_law_placed_b3 [x0, .dat (.int N), .own (rowI N f), s3, .dat (.int s), .dat (.int p), c6, c7, .un, .un] π = some ([x0, .dat (.int N), .own (rowI N fun n => f n - p * sm (nm s N) fun j => dv ((j + 1) * s) n), s3, .dat (.int s), .dat (.int p), c6', c7', .un, .un], π, .nx) := by
  have L := forGo_inv (tg := gN 6) (b := B_law_placed_b2) (fun i ρ π2 => ∃ c6 c7 : FL.Slot, ρ = [x0, .dat (.int N), .own (rowI N fun n => f n - p * sm i fun j => dv ((j + 1) * s) n), s3, .dat (.int s), .dat (.int p), c6, c7, .un, .un] ∧ π2 = π ∧ c6.isOwn = false ∧ c7.isOwn = false) (rg3 s N s) (by
    rintro i dd ρ π2 hx ⟨c6, c7, rfl, rfl, h6, h7⟩
    obtain ⟨li, rfl⟩ := rg3_get hx
    have lt := nm_lt s0 li
    have e0 : (s : Int) + (i : Int) * s = (((i + 1) * s : Nat) : Int) := by push_cast; rw [Int.add_mul]; omega
    rw [e0]
    obtain ⟨c7', h7', b⟩ := pl_b2 (N := N) (d := (i + 1) * s) (Nat.mul_pos (Nat.succ_pos i) s0) lt hN (fun n => f n - p * sm i fun j => dv ((j + 1) * s) n) hp x0 s3 (.dat (.int s)) c7 h7 π2
    have hrow : (rowI N fun n => (fun n => f n - p * sm i fun j => dv ((j + 1) * s) n) n - p * dv ((i + 1) * s) n) = rowI N fun n => f n - p * sm (i + 1) fun j => dv ((j + 1) * s) n := rowI_congr fun n _ => by
      show f n - p * sm i (fun j => dv ((j + 1) * s) n) - p * dv ((i + 1) * s) n = _
      rw [sm_succ, Int.mul_add]; omega
    rw [hrow] at b
    generalize (((i + 1) * s : Nat) : Int) = Z at *
    exact ⟨[x0, .dat (.int N), .own (rowI N fun n => f n - p * sm i fun j => dv ((j + 1) * s) n), s3, .dat (.int s), .dat (.int p), .dat (.int Z), c7, .un, .un], _, π2, by simp [h6], .inl b, _, c7', rfl, rfl, rfl, h7'⟩) (ρ := [x0, .dat (.int N), .own (rowI N f), s3, .dat (.int s), .dat (.int p), c6, c7, .un, .un]) (π := π) ⟨c6, c7, by
        have hrow : (rowI N fun n => f n - p * sm 0 fun j => dv ((j + 1) * s) n) = rowI N f := rowI_congr fun n _ => by
          show f n - p * 0 = f n
          omega
        rw [hrow], rfl, h6, h7⟩
  obtain ⟨ρ', π', e, c6', c7', rfl, rfl, h6', h7'⟩ := L
  rw [rg3_length] at e
  refine ⟨c6', c7', h6', h7', ?_⟩
  have r3 : r3Ok (s : Int) N s = true := cdec_of ⟨⟨by omega, by omega⟩, ⟨by omega, by omega⟩, by omega, by omega, by omega⟩
  have e : forGo (gN 6) B_law_placed_b2 (rg3 s N s) [x0, .dat (.int N), .own (rowI N f), s3, .dat (.int s), .dat (.int p), c6, c7, .un, .un] π' = some ([x0, .dat (.int N), .own (rowI N fun n => f n - p * sm (nm s N) fun j => dv ((j + 1) * s) n), s3, .dat (.int s), .dat (.int p), c6', c7', .un, .un], π', .nx) := e
  generalize (rowI N fun n => f n - p * sm (nm s N) fun j => dv ((j + 1) * s) n) = R1 at *
  generalize rowI N f = R2 at *
  simp [B_law_placed_b3, r3, e, -forGo]
theorem pl_loop {N : Nat} (hN : N ≤ 100) (x0 s3 : FL.Slot) (π : Pot) : ∀ (ps : Ps) (f : Nat → Int) (c4 c5 c6 c7 : FL.Slot), (∀ q ∈ ps, 1 ≤ sN q ∧ sN q ≤ 23 ∧ q.1 = (sN q : Int) ∧ q.2.natAbs ≤ 60) → c4.isOwn = false → c5.isOwn = false → c6.isOwn = false → c7.isOwn = false → ∃ c4' c5' c6' c7' : FL.Slot,
    forGo (gT 2 (gsC (gN 4) (gsC (gN 5) gsN))) B_law_placed_b3 (rowsP ps) [x0, .dat (.int N), .own (rowI N f), s3, c4, c5, c6, c7, .un, .un] π = some ([x0, .dat (.int N), .own (rowI N fun n => f n - sQ N ps n), s3, c4', c5', c6', c7', .un, .un], π, .nx)
  | [], f, c4, c5, c6, c7, _, _, _, _, _ => ⟨c4, c5, c6, c7, by
      have hrow : (rowI N fun n => f n - sQ N [] n) = rowI N f := rowI_congr fun n _ => by show f n - 0 = f n; omega
      rw [hrow]; rfl⟩
  | q :: ps, f, c4, c5, c6, c7, h, h4, h5, h6, h7 => by
    obtain ⟨s0, s1, hs, hp⟩ := h q List.mem_cons_self
    obtain ⟨d6, d7, e6, e7, b⟩ := pl_b3 (s := sN q) (N := N) (p := q.2) s0 s1 hN f hp x0 s3 c6 c7 h6 h7 π
    obtain ⟨c4', c5', c6', c7', ih⟩ := pl_loop hN x0 s3 π ps (fun n => f n - q.2 * sm (nm (sN q) N) fun j => dv ((j + 1) * sN q) n) (.dat (.int q.1)) (.dat (.int q.2)) d6 d7 (fun r hr => h r (List.mem_cons_of_mem _ hr)) rfl rfl e6 e7
    refine ⟨c4', c5', c6', c7', ?_⟩
    have hrow : (rowI N fun n => (fun n => f n - q.2 * sm (nm (sN q) N) fun j => dv ((j + 1) * sN q) n) n - sQ N ps n) = rowI N fun n => f n - sQ N (q :: ps) n := rowI_congr fun n _ => by
      show f n - _ - sQ N ps n = f n - (_ + sQ N ps n)
      omega
    rw [hrow] at ih
    rw [← hs] at b
    show forGo _ _ (.tuple [.int q.1, .int q.2] :: rowsP ps) _ π = _
    unfold forGo
    generalize (rowI N fun n => f n - q.2 * sm (nm (sN q) N) fun j => dv ((j + 1) * sN q) n) = R1 at *
    generalize (rowI N fun n => f n - sQ N (q :: ps) n) = R3 at *
    generalize rowI N f = R2 at *
    simp [h4, h5, b, ih, -forGo]
theorem pl_b4 {N k : Nat} {ps : Ps} {A : Nat → Int} (g : Gp ps) (s : Ser ps A) (hN : N ≤ 96) (k0 : 1 ≤ k) (hk : k < N) (x0 c4 c5 c6 c7 : FL.Slot) (π : Pot) :
    B_law_placed_b4 [x0, .dat (.int N), .own (rowI N fun n => cS ps n), .own (rowI k A), c4, c5, c6, c7, .dat (.int k), .un] π = some ([x0, .dat (.int N), .own (rowI N fun n => cS ps n), .own (rowI (k + 1) A), c4, c5, c6, c7, .dat (.int k), .un], π, .nx) := by
  have L := lcGo_rg (tg := gN 9) (tt := xYes) (el := xOp mulF (xOp ixF (xBo 2) (xBo 9)) (xOp ixF (xBo 3) (xOp subF (xBo 8) (xBo 9)))) (ρw := [x0, .dat (.int N), .own (rowI N fun n => cS ps n), .own (rowI k A), c4, c5, c6, c7, .dat (.int k), .un]) (π := π) 1 k (fun i => cS ps (i + 1) * A (k - 1 - i)) fun i hi => by
    have e0 : (1 : Int) + (i : Int) = ((i + 1 : Nat) : Int) := by omega
    rw [e0]
    have a1 : ixF (.list (rowI N fun n => cS ps n)) (.int ((i + 1 : Nat) : Int)) = some (.int (cS ps (i + 1))) := by
      have : atI (rowI N fun n => cS ps n) ((i + 1 : Nat) : Int) = some (.int (cS ps (i + 1))) := by
        rw [rowI_at (by omega) (by omega), show ((i + 1 : Nat) : Int).toNat = i + 1 by omega]
      simpa [ixF] using this
    have sb : subF (.int (k : Int)) (.int ((i + 1 : Nat) : Int)) = some (.int ((k - 1 - i : Nat) : Int)) := by
      show some (PyData.int ((k : Int) - ((i + 1 : Nat) : Int))) = _
      congr 2
      omega
    have a2 : ixF (.list (rowI k A)) (.int ((k - 1 - i : Nat) : Int)) = some (.int (A (k - 1 - i))) := by
      have : atI (rowI k A) ((k - 1 - i : Nat) : Int) = some (.int (A (k - 1 - i))) := by rw [rowI_at (by omega) (by omega)]; rfl
      simpa [ixF] using this
    have m := mulF_of (i := cS ps (i + 1)) (j := A (k - 1 - i)) (mulOk_of (a := 30) (b := 200) (cS_lt g (by omega)) (s.b _))
    refine ⟨[x0, .dat (.int N), .own (rowI N fun n => cS ps n), .own (rowI k A), c4, c5, c6, c7, .dat (.int k), .dat (.int ((i + 1 : Nat) : Int))], rfl, rfl, ?_⟩
    generalize ((i + 1 : Nat) : Int) = Z1 at *
    generalize ((k - 1 - i : Nat) : Int) = Z2 at *
    generalize (rowI N fun n => cS ps n) = R1 at *
    generalize rowI k A = R2 at *
    simp [a1, sb, a2, m, -ixF, -subF]
  have su := sumF_rowI k fun i => cS ps (i + 1) * A (k - 1 - i)
  rw [← s.r k (by omega)] at su
  have q := fdivF_of (i := (k : Int) * A k) (j := (k : Int)) (divOk_of (by omega) (by omega)) (by omega)
  rw [Int.mul_ediv_cancel_left _ (by omega)] at q
  have r1 := rgOk_nat (N := k + 1) (by omega)
  have r0 : rgOk 1 = true := rg17.1
  have t : (((k + 1 : Nat) : Int) - 1).toNat = k := by omega
  have ad : addF (.int (k : Int)) (.int 1) = some (.int ((k + 1 : Nat) : Int)) := by
    show some (PyData.int ((k : Int) + 1)) = _
    congr 2
  have ln : (rg 1 k).length = k := rg_length _ _
  have kl : k ≤ 100000 := by omega
  have rl : (rowI k A).length < 100000 := by rw [rowI_length]; omega
  have sn := rowI_succ k A
  rw [sn]
  generalize ((k + 1 : Nat) : Int) = Z1 at *
  generalize (rowI N fun n => cS ps n) = R1 at *
  generalize rowI k A = R2 at *
  generalize (k : Int) * A k = W at *
  generalize (rowI k fun i => cS ps (i + 1) * A (k - 1 - i)) = R3 at *
  simp [B_law_placed_b4, ad, r1, r0, t, ln, kl, L, su, q, rl, -lcGo, -ixF, -addF, -sumF, -subF, -fdivF]
theorem law_placed_eq {ps : Ps} {A : Nat → Int} {N : Nat} (g : Gp ps) (s : Ser ps A) (s0 : 0 ≤ Ssum ps / 24) (N0 : 1 ≤ N) (hN : N ≤ 96) (sl : shN ps ≤ 1000) : F_law_placed [Pd ps, .int N] = some (.list (rowI N (bp ps A))) := by
  obtain ⟨c4, c5, c6, c7, e⟩ := pl_loop (N := N) (by omega) (.dat (Pd ps)) (.own [.int 1]) [] ps (fun _ => 0) .un .un .un .un (sN_ok g) rfl rfl rfl rfl
  have hc : (rowI N fun n => 0 - sQ N ps n) = rowI N fun n => cS ps n := rowI_congr fun n hn => by rw [sQ_cS g hn]; omega
  have e : forGo (gT 2 (gsC (gN 4) (gsC (gN 5) gsN))) B_law_placed_b3 (rowsP ps) [.dat (Pd ps), .dat (.int N), .own (rowI N fun _ => 0), .own [.int 1], .un, .un, .un, .un, .un, .un] [] = some ([.dat (Pd ps), .dat (.int N), .own (rowI N fun n => 0 - sQ N ps n), .own [.int 1], c4, c5, c6, c7, .un, .un], [], .nx) := e
  rw [hc] at e
  have rp := rep0 (N := N) (by omega)
  have L := forGo_inv (tg := gN 8) (b := B_law_placed_b4) (fun i ρ π2 => ∃ c8 : FL.Slot, ρ = [.dat (Pd ps), .dat (.int N), .own (rowI N fun n => cS ps n), .own (rowI (i + 1) A), c4, c5, c6, c7, c8, .un] ∧ π2 = [] ∧ c8.isOwn = false) (rg 1 (N - 1)) (by
    rintro i dd ρ π2 hx ⟨c8, rfl, rfl, h8⟩
    obtain ⟨li, rfl⟩ := rg_get hx
    have e0 : (1 : Int) + (i : Int) = ((i + 1 : Nat) : Int) := by omega
    rw [e0]
    have b := pl_b4 (N := N) (k := i + 1) g s hN (by omega) (by omega) (.dat (Pd ps)) c4 c5 c6 c7 []
    exact ⟨[.dat (Pd ps), .dat (.int N), .own (rowI N fun n => cS ps n), .own (rowI (i + 1) A), c4, c5, c6, c7, .dat (.int ((i + 1 : Nat) : Int)), .un], _, [], by simp [h8], .inl b, _, rfl, rfl, rfl⟩) (ρ := [.dat (Pd ps), .dat (.int N), .own (rowI N fun n => cS ps n), .own [.int 1], c4, c5, c6, c7, .un, .un]) (π := []) ⟨.un, by
      have : rowI (0 + 1) A = [.int 1] := by rw [rowI_succ, s.z]; rfl
      rw [this], rfl, rfl⟩
  obtain ⟨ρ', π', e2, c8', rfl, rfl, h8'⟩ := L
  rw [rg_length, show N - 1 + 1 = N by omega] at e2
  have r1 := rgOk_nat (N := N) (by omega)
  have r0 : rgOk 1 = true := rg17.1
  have t : ((N : Int) - 1).toNat = N - 1 := by omega
  have l4 := g.len
  have ln : (rowsP ps).length ≤ 100000 := by rw [rowsP_length]; omega
  have kx : ixF (Pd ps) (.int 1) = some (.tuple (rowsP ps)) := by simp [Pd]
  have sh := shift_eq g s0
  have m0 := mul0 (N := shN ps) (by omega)
  have ct : catF (.list (rowI (shN ps) fun _ => 0)) (.list (rowI N A)) = some (.list (rowI (shN ps + N) (bp ps A))) := by
    unfold catF
    simp only [rowI_length]
    rw [if_pos (by omega), rowI_bp]
  have ct2 : addF (.list (rowI (shN ps) fun _ => 0)) (.list (rowI N A)) = some (.list (rowI (shN ps + N) (bp ps A))) := ct
  have cu : cutL (.list (rowI (shN ps + N) (bp ps A))) none (some (N : Int)) = some (.list (rowI N (bp ps A))) := by
    have := cut_take (rowI (shN ps + N) (bp ps A)) N (by rw [rowI_length]; omega)
    rw [rowI_take _ (by omega)] at this
    exact congrArg (fun z => some (PyData.list z)) this
  generalize (rowI N fun n => cS ps n) = R1 at *
  generalize (rowI N fun _ => 0) = R4 at *
  generalize (rowI (shN ps) fun _ => 0) = R6 at *
  generalize rowI (shN ps + N) (bp ps A) = R7 at *
  generalize rowI N (bp ps A) = R8 at *
  generalize rowI N A = R2 at *
  generalize rowsP ps = R3 at *
  generalize Pd ps = P at *
  simp [F_law_placed, B_law_placed, rp, kx, ln, e, r1, r0, t, e2, sh, m0, ct2, cu, -forGo, -ixF, -addF, -cutL]
end K81

set_option exponentiation.threshold 3000
noncomputable section
namespace K81
open PySem PySem.Spec PyProof.Rows L2 EP FL PSr
theorem pick_ok {π : Pot} (h : PotOk π) {xs : List D} (h0 : 0 < xs.length) (h1 : xs.length ≤ 100000) : ∃ (j : Nat) (x : D) (π' : Pot), xs[j]? = some x ∧ F_law_pick π [.list xs] = some (x, π') ∧ PotOk π' := by
  obtain ⟨d, π', e, d0, d1, p⟩ := draw_ok h (show (0 : Int) < (xs.length : Int) by omega) (by omega)
  have e2 : atI xs d = xs[d.toNat]? := atI_of (by omega)
  have lt : d.toNat < xs.length := by omega
  refine ⟨d.toNat, xs[d.toNat], π', List.getElem?_eq_getElem lt, ?_, p⟩
  simp [F_law_pick, B_law_pick, e, e2, lt]
/-- the products of levels that the law draws from -/
def somes : List (Nat × Ps) := [(1, [(1, 24)]), (2, [(1, 8), (2, 8)]), (2, [(1, 16), (2, -8)]), (3, [(1, 6), (3, 6)]), (3, [(1, 9), (3, -3)]), (4, [(2, 12)]), (4, [(1, -4), (2, 10), (4, -4)]), (5, [(1, 4), (5, 4)]), (6, [(1, 2), (2, 2), (3, 2), (6, 2)]), (7, [(1, 3), (7, 3)]), (8, [(1, 2), (2, 1), (4, 1), (8, 2)]), (11, [(1, 2), (11, 2)]), (14, [(1, 1), (2, 1), (7, 1), (14, 1)]), (15, [(1, 1), (3, 1), (5, 1), (15, 1)]), (16, [(4, 6)]), (20, [(2, 2), (10, 2)]), (23, [(1, 1), (23, 1)])]
def encS (x : Nat × Ps) : D := .tuple [.int (x.1 : Nat), .tuple (rowsP x.2)]
theorem law_some_eq : F_law_some [] = some (.list (somes.map encS)) := by
  simp [F_law_some, B_law_some, somes, encS, rowsP, catF]
theorem lc_gen {α : Type} {tg : Gx} {tt : FL.Tx} {el : Ex} {ρw : En} {π : Pot} (enc : α → D) (p : α → Bool) (k : α → D) : ∀ L : List α, (∀ x ∈ L, ∃ ρ2, tg (enc x) ρw = some ρ2 ∧ tt ρ2 π = some (p x, π) ∧ (p x = true → el ρ2 π = some (k x, π))) → lcGo tg tt el ρw (L.map enc) π = some ((L.filter p).map k, π)
  | [], _ => rfl
  | x :: L, h => by
    have ih := lc_gen enc p k L fun y hy => h y (List.mem_cons_of_mem _ hy)
    obtain ⟨ρ2, e1, e2, e3⟩ := h x List.mem_cons_self
    show lcGo tg tt el ρw (enc x :: L.map enc) π = _
    unfold lcGo
    rw [e1]
    simp only [Option.bind_some]
    rw [e2]
    simp only [Option.bind_some]
    cases hp : p x with
    | true =>
      rw [List.filter_cons_of_pos hp]
      simp only [if_true]
      rw [e3 hp]
      simp only [Option.bind_some]
      rw [ih]
      rfl
    | false =>
      rw [List.filter_cons_of_neg (by simp [hp])]
      simp [ih, -lcGo]
/-! ### the dict -/
def kvD (qs : Ps) : List (Key × D) := qs.map fun q => (Sum.inl q.1, .int q.2)
def kI (qs : Ps) : List (Key × Int) := qs.map fun q => (Sum.inl q.1, q.2)
def vl (qs : Ps) (s : Int) : Int := ((qs.find? fun q => decide (q.1 = s)).map Prod.snd).getD 0
def putP (qs : Ps) (s p : Int) : Ps := if (qs.any fun q => decide (q.1 = s)) = true then qs.map (fun q => if q.1 = s then (q.1, p) else q) else qs ++ [(s, p)]
theorem inl_iff {a b : Int} : ((Sum.inl a : Key) = Sum.inl b) ↔ a = b := ⟨fun z => by injection z, fun z => by rw [z]⟩
theorem put_gen {α : Type} (f : Int → α) (qs : Ps) (s p : Int) : putG (qs.map fun q => ((Sum.inl q.1 : Key), f q.2)) (Sum.inl s) (f p) = (putP qs s p).map fun q => ((Sum.inl q.1 : Key), f q.2) := by
  unfold putG putP
  have a : ((qs.map fun q => ((Sum.inl q.1 : Key), f q.2)).any fun kv => decide (kv.1 = Sum.inl s)) = qs.any fun q => decide (q.1 = s) := by
    rw [List.any_map]
    congr 1
    funext q
    show decide ((Sum.inl q.1 : Key) = Sum.inl s) = decide (q.1 = s)
    rw [decide_eq_decide]; exact inl_iff
  rw [a]
  split
  · rw [List.map_map, List.map_map]
    refine List.map_congr_left fun q _ => ?_
    show (if (Sum.inl q.1 : Key) = Sum.inl s then _ else _) = ((Sum.inl (if q.1 = s then (q.1, p) else q).1 : Key), f (if q.1 = s then (q.1, p) else q).2)
    by_cases e : q.1 = s
    · rw [if_pos (inl_iff.mpr e), if_pos e]
    · rw [if_neg fun z => e (inl_iff.mp z), if_neg e]
  · rw [List.map_append]; rfl
theorem put_kvD (qs : Ps) (s p : Int) : putG (kvD qs) (Sum.inl s) (.int p) = kvD (putP qs s p) := put_gen PyData.int qs s p
theorem put_kI (qs : Ps) (s p : Int) : putG (kI qs) (Sum.inl s) p = kI (putP qs s p) := put_gen id qs s p
def dk (q1 : Ps) : Ps := q1.foldl (fun acc q => putP acc q.1 q.2) []
theorem mI_dk (q1 : Ps) : mI (kI q1) = kI (dk q1) := by
  have : ∀ (l acc : Ps), (kI l).foldl (fun acc kv => putG acc kv.1 kv.2) (kI acc) = kI (l.foldl (fun acc q => putP acc q.1 q.2) acc) := by
    intro l
    induction l with
    | nil => intro acc; rfl
    | cons q l ih =>
      intro acc
      show (kI l).foldl _ (putG (kI acc) (Sum.inl q.1) q.2) = _
      rw [put_kI, ih]
      rfl
  exact this q1 []
theorem kvI_kI (qs : Ps) : kvI (kI qs) = kvD qs := by
  unfold kvI kI kvD
  rw [List.map_map]; rfl
theorem prI_rows : ∀ q1 : Ps, prI (rowsP q1) = some (kI q1)
  | [] => rfl
  | q :: r => by
    show (keyD (.int q.1)).bind (fun key => (prI (rowsP r)).map fun l => (key, q.2) :: l) = _
    rw [prI_rows r]; rfl
theorem val_gen : ∀ (qs : Ps) (s : Int), valG (kvD qs) (Sum.inl s) = (qs.find? fun q => decide (q.1 = s)).map fun q => .int q.2
  | [], s => rfl
  | q :: qs, s => by
    have ih := val_gen qs s
    by_cases c : q.1 = s
    · rw [List.find?_cons_of_pos (by simp [c])]
      subst c
      simp [valG, kvD]
    · rw [List.find?_cons_of_neg (by simp [c]), ← ih]
      have ne : ¬ ((Sum.inl q.1 : Key) = Sum.inl s) := fun z => c (inl_iff.mp z)
      simp [valG, kvD, c]
theorem val_get (qs : Ps) (s : Int) : (valG (kvD qs) (Sum.inl s)).getD (.int 0) = .int (vl qs s) := by
  rw [val_gen]
  unfold vl
  cases qs.find? fun q => decide (q.1 = s) <;> rfl
theorem val_mem {qs : Ps} {s : Int} (h : s ∈ qs.map Prod.fst) : valG (kvD qs) (Sum.inl s) = some (.int (vl qs s)) := by
  rw [val_gen]
  unfold vl
  obtain ⟨q, hq, rfl⟩ := List.mem_map.mp h
  cases e : qs.find? fun r => decide (r.1 = q.1) with
  | none =>
    have := List.find?_eq_none.mp e q hq
    simp at this
  | some r => rfl
def add2 (acc : Ps) (q : Int × Int) : Ps := putP acc q.1 (vl acc q.1 + q.2)
def mer (q1 q2 : Ps) : Ps := q2.foldl add2 (dk q1)
theorem putP_len (qs : Ps) (s p : Int) : (putP qs s p).length ≤ qs.length + 1 := by
  unfold putP
  split
  · rw [List.length_map]; omega
  · rw [List.length_append]; simp
theorem mer_loop {s1 s2 s3 s7 s8 : FL.Slot} {π : Pot} : ∀ (q2 acc : Ps) (c5 c6 : FL.Slot), acc.length + q2.length < 1000 → c5.isOwn = false → c6.isOwn = false → ∃ c5' c6' : FL.Slot, c5'.isOwn = false ∧ c6'.isOwn = false ∧
    forGo (gT 2 (gsC (gN 5) (gsC (gN 6) gsN))) B_law_drawn_b1 (rowsP q2) [.pot, s1, s2, s3, .dct (kvD acc), c5, c6, s7, s8] π = some ([.pot, s1, s2, s3, .dct (kvD (q2.foldl add2 acc)), c5', c6', s7, s8], π, .nx)
  | [], acc, c5, c6, _, h5, h6 => ⟨c5, c6, h5, h6, rfl⟩
  | q :: q2, acc, c5, c6, hl, h5, h6 => by
    rw [List.length_cons] at hl
    have pl := putP_len acc q.1 (vl acc q.1 + q.2)
    obtain ⟨c5', c6', i5, i6, ih⟩ := mer_loop (s1 := s1) (s2 := s2) (s3 := s3) (s7 := s7) (s8 := s8) (π := π) q2 (add2 acc q) (.dat (.int q.1)) (.dat (.int q.2)) (by unfold add2; omega) rfl rfl
    refine ⟨c5', c6', i5, i6, ?_⟩
    have vg := val_get acc q.1
    have pk := put_kvD acc q.1 (vl acc q.1 + q.2)
    have kl : (kvD acc).length < 100000 := by unfold kvD; rw [List.length_map]; omega
    have kd : keyD (.int q.1) = some (Sum.inl q.1) := rfl
    have ad : addF (.int (vl acc q.1)) (.int q.2) = some (.int (vl acc q.1 + q.2)) := rfl
    have ef : (q :: q2).foldl add2 acc = q2.foldl add2 (add2 acc q) := rfl
    rw [ef]
    have b : B_law_drawn_b1 [.pot, s1, s2, s3, .dct (kvD acc), .dat (.int q.1), .dat (.int q.2), s7, s8] π = some ([.pot, s1, s2, s3, .dct (kvD (add2 acc q)), .dat (.int q.1), .dat (.int q.2), s7, s8], π, .nx) := by
      unfold add2
      rw [← pk]
      generalize kvD acc = K1 at *
      generalize vl acc q.1 + q.2 = Y at *
      simp [B_law_drawn_b1, kd, vg, ad, kl, -addF]
    show forGo _ _ (.tuple [.int q.1, .int q.2] :: rowsP q2) _ π = _
    unfold forGo
    generalize kvD (add2 acc q) = K2 at *
    generalize kvD acc = K1 at *
    generalize kvD (q2.foldl add2 (add2 acc q)) = K3 at *
    simp [h5, h6, b, ih, -forGo]
/-- keys in order, those with a power -/
def ins (a : Int) : List Int → List Int
  | [] => [a]
  | b :: r => if a ≤ b then a :: b :: r else b :: ins a r
def srt : List Int → List Int
  | [] => []
  | a :: r => ins a (srt r)
theorem ins_spec (a : Int) : ∀ r : List Int, r.Pairwise (· ≤ ·) → (ins a r).Perm (a :: r) ∧ (ins a r).Pairwise (· ≤ ·)
  | [], _ => ⟨.refl _, by simp [ins]⟩
  | b :: r, h => by
    obtain ⟨h1, h2⟩ := List.pairwise_cons.mp h
    unfold ins
    split
    · rename_i c
      refine ⟨.refl _, List.pairwise_cons.mpr ⟨fun x hx => ?_, h⟩⟩
      rcases List.mem_cons.mp hx with rfl | hx
      · exact c
      · have := h1 x hx; omega
    · rename_i c
      obtain ⟨p1, p2⟩ := ins_spec a r h2
      refine ⟨(p1.cons b).trans (.swap _ _ _), List.pairwise_cons.mpr ⟨fun x hx => ?_, p2⟩⟩
      rcases List.mem_cons.mp (p1.mem_iff.mp hx) with rfl | hx
      · omega
      · exact h1 x hx
theorem srt_spec : ∀ r : List Int, (srt r).Perm r ∧ (srt r).Pairwise (· ≤ ·)
  | [] => ⟨.refl _, .nil⟩
  | a :: r => by
    obtain ⟨p1, p2⟩ := srt_spec r
    obtain ⟨p3, p4⟩ := ins_spec a (srt r) p2
    exact ⟨p3.trans (p1.cons a), p4⟩
theorem sort_srt (r : List Int) : sortI r = srt r := by
  obtain ⟨a, b⟩ := sortI_spec r
  obtain ⟨c, d⟩ := srt_spec r
  exact perm_sorted_uniq (a.trans c.symm) b d
def fin (qs : Ps) : Ps := ((srt (qs.map Prod.fst)).filter fun s => decide (vl qs s ≠ 0)).map fun s => (s, vl qs s)
def lateL (L : Nat) : List Ps := (somes.filter fun x => decide (x.1 = L)).map Prod.snd
theorem foldl_len : ∀ (q2 acc : Ps), (q2.foldl add2 acc).length ≤ acc.length + q2.length
  | [], acc => by simp
  | q :: q2, acc => by
    have a := foldl_len q2 (add2 acc q)
    have b : (add2 acc q).length ≤ acc.length + 1 := putP_len _ _ _
    show (q2.foldl add2 (add2 acc q)).length ≤ _
    rw [List.length_cons]
    omega
theorem dk_len (q1 : Ps) : (dk q1).length ≤ q1.length := by
  have : ∀ (l acc : Ps), (l.foldl (fun acc q => putP acc q.1 q.2) acc).length ≤ acc.length + l.length := by
    intro l
    induction l with
    | nil => intro acc; simp
    | cons q l ih =>
      intro acc
      have a := ih (putP acc q.1 q.2)
      have b := putP_len acc q.1 q.2
      show (l.foldl _ (putP acc q.1 q.2)).length ≤ _
      rw [List.length_cons]
      omega
  have := this q1 []
  simp at this
  exact this
theorem somes_len : ∀ x ∈ somes, x.2.length ≤ 4 := by decide +kernel
theorem drawn_ok {π : Pot} (h : PotOk π) : ∃ (x : Nat × Ps) (q2 : Ps) (π' : Pot), x ∈ somes ∧ q2 ∈ [] :: lateL x.1 ∧ F_law_drawn π [] = some (.tuple [.int (x.1 : Nat), Pd (fin (mer x.2 q2))], π') ∧ PotOk π' := by
  obtain ⟨j, d, π1, e1, f1, p1⟩ := pick_ok h (xs := somes.map encS) (by decide) (by decide)
  obtain ⟨x, hx, rfl⟩ := List.mem_map.mp (List.mem_of_getElem? e1)
  have X := lc_gen (tg := gT 2 (gsC (gN 7) (gsC (gN 8) gsN))) (tt := xT (xOp (eqF false) (xBo 7) (xBo 1))) (el := xVar 8) (ρw := [.pot, .dat (.int (x.1 : Nat)), .dat (.tuple (rowsP x.2)), .un, .un, .un, .un, .un, .un]) (π := π1) encS (fun y => decide (y.1 = x.1)) (fun y => .tuple (rowsP y.2)) somes fun y hy => by
    refine ⟨[.pot, .dat (.int (x.1 : Nat)), .dat (.tuple (rowsP x.2)), .un, .un, .un, .un, .dat (.int (y.1 : Nat)), .dat (.tuple (rowsP y.2))], rfl, ?_, fun _ => rfl⟩
    have eq := eqF_int false (y.1 : Int) (x.1 : Int)
    have d : decide ((y.1 : Int) = (x.1 : Int)) = decide (y.1 = x.1) := by rw [decide_eq_decide]; omega
    rw [d] at eq
    generalize decide (y.1 = x.1) = BB at *
    simp [eq]
  have lt : ((somes.filter fun y => decide (y.1 = x.1)).map fun y => (.tuple (rowsP y.2) : D)) = (lateL x.1).map fun q => .tuple (rowsP q) := by
    unfold lateL
    rw [List.map_map]; rfl
  rw [lt] at X
  have ll : (lateL x.1).length ≤ 17 := by
    unfold lateL
    rw [List.length_map]
    exact List.length_filter_le _ _
  obtain ⟨j2, d2, π2, e2, f2, p2⟩ := pick_ok p1 (xs := .tuple [] :: (lateL x.1).map fun q => .tuple (rowsP q)) (by simp) (by simp; omega)
  have hq : ∃ q2 ∈ ([] : Ps) :: lateL x.1, d2 = .tuple (rowsP q2) := by
    rcases List.mem_cons.mp (List.mem_of_getElem? e2) with z | z
    · exact ⟨[], List.mem_cons_self, z⟩
    · obtain ⟨q, hq, rfl⟩ := List.mem_map.mp z
      exact ⟨q, List.mem_cons_of_mem _ hq, rfl⟩
  obtain ⟨q2, hq2, rfl⟩ := hq
  have q2l : q2.length ≤ 4 := by
    rcases List.mem_cons.mp hq2 with rfl | z
    · simp
    · unfold lateL at z
      obtain ⟨y, hy, rfl⟩ := List.mem_map.mp z
      exact somes_len y (List.mem_filter.mp hy).1
  have q1l := somes_len x hx
  have dl := dk_len x.2
  have ml := foldl_len q2 (dk x.2)
  obtain ⟨c5, c6, i5, i6, e3⟩ := mer_loop (s1 := .dat (.int (x.1 : Nat))) (s2 := .dat (.tuple (rowsP x.2))) (s3 := .dat (.list ((lateL x.1).map fun q => .tuple (rowsP q)))) (s7 := .un) (s8 := .un) (π := π2) q2 (dk x.2) .un .un (by omega) rfl rfl
  have em : q2.foldl add2 (dk x.2) = mer x.2 q2 := rfl
  rw [em] at e3 ml
  refine ⟨x, q2, π2, hx, hq2, ?_, p2⟩
  have pr := prI_rows x.2
  have kk : kvI (mI (kI x.2)) = kvD (dk x.2) := by rw [mI_dk, kvI_kI]
  have so := sortedF_ints ((mer x.2 q2).map Prod.fst)
  rw [sort_srt] at so
  obtain ⟨sp, _⟩ := srt_spec ((mer x.2 q2).map Prod.fst)
  have Y := lc_gen (tg := gN 5) (tt := xT (xOp (eqF true) (xDG 4 (xBo 5)) (xC (.int 0)))) (el := xTup (aCons (xVar 5) (aCons (xDG 4 (xBo 5)) aNil))) (ρw := [.pot, .dat (.int (x.1 : Nat)), .dat (.tuple (rowsP x.2)), .dat (.list ((lateL x.1).map fun q => .tuple (rowsP q))), .dct (kvD (mer x.2 q2)), .un, c6, .un, .un]) (π := π2) PyData.int (fun s => decide (vl (mer x.2 q2) s ≠ 0)) (fun s => .tuple [.int s, .int (vl (mer x.2 q2) s)]) (srt ((mer x.2 q2).map Prod.fst)) fun s hs => by
    have v := val_mem (sp.mem_iff.mp hs)
    have kd : keyD (.int s) = some (Sum.inl s) := rfl
    refine ⟨[.pot, .dat (.int (x.1 : Nat)), .dat (.tuple (rowsP x.2)), .dat (.list ((lateL x.1).map fun q => .tuple (rowsP q))), .dct (kvD (mer x.2 q2)), .dat (.int s), c6, .un, .un], rfl, ?_, fun _ => ?_⟩
    · have eq := eqF_int true (vl (mer x.2 q2) s) 0
      generalize kvD (mer x.2 q2) = K1 at *
      simp [kd, v, eq]
    · generalize kvD (mer x.2 q2) = K1 at *
      simp [kd, v]
  have er : (((srt ((mer x.2 q2).map Prod.fst)).filter fun s => decide (vl (mer x.2 q2) s ≠ 0)).map fun s => (.tuple [.int s, .int (vl (mer x.2 q2) s)] : D)) = rowsP (fin (mer x.2 q2)) := by
    unfold rowsP fin
    rw [List.map_map]; rfl
  rw [er] at Y
  have keys : (kvD (mer x.2 q2)).map (fun kv => keyV kv.1) = ((mer x.2 q2).map Prod.fst).map PyData.int := by
    unfold kvD
    rw [List.map_map, List.map_map]; rfl
  have lk : ((srt ((mer x.2 q2).map Prod.fst)).map PyData.int).length ≤ 100000 := by
    rw [List.length_map, sp.length_eq, List.length_map]
    omega
  have ls := law_some_eq
  have sl : (somes.map encS).length ≤ 100000 := by decide
  have ct : catF (.list [.tuple []]) (.list ((lateL x.1).map fun q => .tuple (rowsP q))) = some (.list (.tuple [] :: (lateL x.1).map fun q => .tuple (rowsP q))) := by
    unfold catF
    simp only [List.length_map, List.length_cons, List.length_nil]
    rw [if_pos (by omega)]
    rfl
  have ct2 : addF (.list [.tuple []]) (.list ((lateL x.1).map fun q => .tuple (rowsP q))) = some (.list (.tuple [] :: (lateL x.1).map fun q => .tuple (rowsP q))) := ct
  have rl : (rowsP q2).length ≤ 100000 := by rw [rowsP_length]; omega
  have ex : encS x = .tuple [.int (x.1 : Nat), .tuple (rowsP x.2)] := rfl
  rw [ex] at f1
  unfold Pd
  generalize (lateL x.1).map (fun q => (.tuple (rowsP q) : D)) = LA at *
  generalize somes.map encS = SD at *
  generalize rowsP (fin (mer x.2 q2)) = R1 at *
  generalize (srt ((mer x.2 q2).map Prod.fst)).map PyData.int = R2 at *
  generalize ((mer x.2 q2).map Prod.fst).map PyData.int = R3 at *
  generalize kvD (mer x.2 q2) = K1 at *
  generalize kvD (dk x.2) = K2 at *
  generalize rowsP q2 = R4 at *
  generalize rowsP x.2 = R5 at *
  simp [F_law_drawn, B_law_drawn, f1, ls, sl, X, ct2, f2, pr, kk, rl, e3, keys, so, lk, Y, i5, i6, tupleF, -forGo, -lcGo, -addF, -sortedF]
end K81

set_option exponentiation.threshold 3000
noncomputable section
namespace K81
open PySem PySem.Spec PyProof.Rows L2 EP FL PSr
def Bd (ps : Ps) (L : Nat) : Nat := (bnd ps L).toNat
def okP (L : Nat) (ps : Ps) (T : List Int) (p : Nat) : Bool := decide (fac p = [((p : Int), 1)]) && (decide (lsym (sgn ps) p = sym (sgn ps) p) && decide (fstB ps (gt T) p (Bd ps L + 3) = fstB ps (gt T) p (Bd ps L + 1)))
/-- the primes that may be asked -/
def pr7 (ps : Ps) (L : Nat) : List Nat := [3, 5, 7, 11, 13, 17, 19].filter fun p => decide (L % p ≠ 0) && decide (p * (Bd ps L + 3) < 96)
def okC (L : Nat) (ps : Ps) (T : List Int) : Bool :=
  decide (ps.length ≤ 4) && (ps.all (fun q => decide (1 ≤ q.1 ∧ q.1 ≤ 23 ∧ q.2 ≠ 0 ∧ -60 ≤ q.2 ∧ q.2 ≤ 60)) && (decide ((ps.map Prod.fst).Pairwise (· < ·)) && (decide (1 ≤ L ∧ L ≤ 23) && (okL ps L && (decide (0 ≤ Ssum ps / 24) && (okI L && (decide ((idxL (fac L) L).natAbs < 1000) && (decide (bnd ps L = (Bd ps L : Int)) && (decide (shN ps ≤ Bd ps L) && (decide (wgt ps * lix (prL L) L / 12 = (Bd ps L : Int)) && (decide ((lix (prL L) L).natAbs < 1000) && (decide (lsgn ps L = sgn ps) && (decide (0 < (pr7 ps L).length) && (pr7 ps L).all (okP L ps T))))))))))))))
theorem okc0 : okC 1 p0 T0 = true := by decide +kernel
theorem okc1 : okC 1 p1 T1 = true := by decide +kernel
theorem okc2 : okC 2 p2 T2 = true := by decide +kernel
theorem okc3 : okC 2 p3 T3 = true := by decide +kernel
theorem okc4 : okC 2 p4 T4 = true := by decide +kernel
theorem okc5 : okC 2 p5 T5 = true := by decide +kernel
theorem okc6 : okC 2 p6 T6 = true := by decide +kernel
theorem okc7 : okC 3 p7 T7 = true := by decide +kernel
theorem okc8 : okC 3 p8 T8 = true := by decide +kernel
theorem okc9 : okC 3 p9 T9 = true := by decide +kernel
theorem okc10 : okC 3 p10 T10 = true := by decide +kernel
theorem okc11 : okC 3 p11 T11 = true := by decide +kernel
theorem okc12 : okC 4 p12 T12 = true := by decide +kernel
theorem okc13 : okC 4 p13 T13 = true := by decide +kernel
theorem okc14 : okC 4 p14 T14 = true := by decide +kernel
theorem okc15 : okC 4 p15 T15 = true := by decide +kernel
theorem okc16 : okC 4 p16 T16 = true := by decide +kernel
theorem okc17 : okC 5 p17 T17 = true := by decide +kernel
theorem okc18 : okC 5 p18 T18 = true := by decide +kernel
theorem okc19 : okC 6 p19 T19 = true := by decide +kernel
theorem okc20 : okC 6 p20 T20 = true := by decide +kernel
theorem okc21 : okC 7 p21 T21 = true := by decide +kernel
theorem okc22 : okC 7 p22 T22 = true := by decide +kernel
theorem okc23 : okC 8 p23 T23 = true := by decide +kernel
theorem okc24 : okC 8 p24 T24 = true := by decide +kernel
theorem okc25 : okC 11 p25 T25 = true := by decide +kernel
theorem okc26 : okC 11 p26 T26 = true := by decide +kernel
theorem okc27 : okC 14 p27 T27 = true := by decide +kernel
theorem okc28 : okC 14 p28 T28 = true := by decide +kernel
theorem okc29 : okC 15 p29 T29 = true := by decide +kernel
theorem okc30 : okC 15 p30 T30 = true := by decide +kernel
theorem okc31 : okC 16 p31 T31 = true := by decide +kernel
theorem okc32 : okC 16 p32 T32 = true := by decide +kernel
theorem okc33 : okC 20 p33 T33 = true := by decide +kernel
theorem okc34 : okC 20 p34 T34 = true := by decide +kernel
theorem okc35 : okC 23 p35 T35 = true := by decide +kernel
theorem okc36 : okC 23 p36 T36 = true := by decide +kernel
/-- all products that are drawn, with their levels and numbers -/
def cs : List (Nat × Ps × List Int) := [(1, p0, T0), (1, p1, T1), (2, p2, T2), (2, p3, T3), (2, p4, T4), (2, p5, T5), (2, p6, T6), (3, p7, T7), (3, p8, T8), (3, p9, T9), (3, p10, T10), (3, p11, T11), (4, p12, T12), (4, p13, T13), (4, p14, T14), (4, p15, T15), (4, p16, T16), (5, p17, T17), (5, p18, T18), (6, p19, T19), (6, p20, T20), (7, p21, T21), (7, p22, T22), (8, p23, T23), (8, p24, T24), (11, p25, T25), (11, p26, T26), (14, p27, T27), (14, p28, T28), (15, p29, T29), (15, p30, T30), (16, p31, T31), (16, p32, T32), (20, p33, T33), (20, p34, T34), (23, p35, T35), (23, p36, T36)]
theorem cs_ok : ∀ e ∈ cs, okC e.1 e.2.1 e.2.2 = true ∧ Ser e.2.1 (gt e.2.2) := by
  unfold cs
  simp only [List.mem_cons, List.not_mem_nil, or_false]
  intro e he
  rcases he with rfl | rfl | rfl | rfl | rfl | rfl | rfl | rfl | rfl | rfl | rfl | rfl | rfl | rfl | rfl | rfl | rfl | rfl | rfl | rfl | rfl | rfl | rfl | rfl | rfl | rfl | rfl | rfl | rfl | rfl | rfl | rfl | rfl | rfl | rfl | rfl | rfl
  · exact ⟨okc0, ser_of ok0⟩
  · exact ⟨okc1, ser_of ok1⟩
  · exact ⟨okc2, ser_of ok2⟩
  · exact ⟨okc3, ser_of ok3⟩
  · exact ⟨okc4, ser_of ok4⟩
  · exact ⟨okc5, ser_of ok5⟩
  · exact ⟨okc6, ser_of ok6⟩
  · exact ⟨okc7, ser_of ok7⟩
  · exact ⟨okc8, ser_of ok8⟩
  · exact ⟨okc9, ser_of ok9⟩
  · exact ⟨okc10, ser_of ok10⟩
  · exact ⟨okc11, ser_of ok11⟩
  · exact ⟨okc12, ser_of ok12⟩
  · exact ⟨okc13, ser_of ok13⟩
  · exact ⟨okc14, ser_of ok14⟩
  · exact ⟨okc15, ser_of ok15⟩
  · exact ⟨okc16, ser_of ok16⟩
  · exact ⟨okc17, ser_of ok17⟩
  · exact ⟨okc18, ser_of ok18⟩
  · exact ⟨okc19, ser_of ok19⟩
  · exact ⟨okc20, ser_of ok20⟩
  · exact ⟨okc21, ser_of ok21⟩
  · exact ⟨okc22, ser_of ok22⟩
  · exact ⟨okc23, ser_of ok23⟩
  · exact ⟨okc24, ser_of ok24⟩
  · exact ⟨okc25, ser_of ok25⟩
  · exact ⟨okc26, ser_of ok26⟩
  · exact ⟨okc27, ser_of ok27⟩
  · exact ⟨okc28, ser_of ok28⟩
  · exact ⟨okc29, ser_of ok29⟩
  · exact ⟨okc30, ser_of ok30⟩
  · exact ⟨okc31, ser_of ok31⟩
  · exact ⟨okc32, ser_of ok32⟩
  · exact ⟨okc33, ser_of ok33⟩
  · exact ⟨okc34, ser_of ok34⟩
  · exact ⟨okc35, ser_of ok35⟩
  · exact ⟨okc36, ser_of ok36⟩
theorem cs_all : (somes.all fun x => (([] : Ps) :: lateL x.1).all fun q2 => cs.any fun e => decide (e.1 = x.1 ∧ e.2.1 = fin (mer x.2 q2))) = true := by decide +kernel
end K81

set_option exponentiation.threshold 3000
noncomputable section
namespace K81
open PySem PySem.Spec PyProof.Rows L2 EP FL PSr
theorem pot_true (ns : List Int) (hl : ns.length ≤ 63) : ∃ p0 p1, F_law_pot ns (.int 0) = some (.list [.int p0, .int p1]) ∧ 0 ≤ p0 := by
  have m1 : ∀ x : Int, mulOk (x % 2147483549) 40692 = true := fun x => by
    refine mulOk_of (a := 40) (b := 40) ?_ (by decide)
    have := Int.emod_nonneg x (show (2147483549 : Int) ≠ 0 by decide)
    have := Int.emod_lt_of_pos x (show (0 : Int) < 2147483549 by decide)
    omega
  have m2 : mulOk 1579 0 = true := cdec_of (by decide)
  have m3 : mulOk 6823 0 = true := cdec_of (by decide)
  have d1 : ∀ x : Int, divOk x 2147483549 = true := fun x => divOk_of (by decide) (by decide)
  have d2 : ∀ x : Int, divOk x 2147483563 = true := fun x => divOk_of (by decide) (by decide)
  have pw : powF (.int 10) (.int 18) = some (.int 1000000000000000000) := by
    have c : powOk 10 18 = true := cdec_of (by decide +kernel)
    simp [powF, c]
  have m4 : mulOk 1423 40692 = true := cdec_of (by decide)
  cases ns with
  | nil =>
    simp [F_law_pot, B_law_pot, m1, m2, m3, m4, d1, d2, pw, mulF]
  | cons x r =>
    have e : (0 : Int) < (r.length : Int) + 1 := by omega
    refine ⟨if (if x < 0 then -x else x) - 1000000000000000000 > 0 then (if x < 0 then -x else x) - 1000000000000000000 else 0, ?_⟩
    simp [F_law_pot, B_law_pot, m1, m2, m3, d1, d2, pw, mulF, e]
    split <;> omega
theorem repr_of_ok {d : D} (h : repOk d = true) : ∃ s, reprF [d] = some (.str s) := by
  refine ⟨d.shown, ?_⟩
  unfold reprF
  split
  · rename_i c; cases c; rfl
  · rename_i c; cases c; rw [if_pos h]
  · rename_i c1 c2; exact (c2 d rfl).elim
theorem repr_small {i : Int} (h : i.natAbs ≤ 1) : ∃ s, reprF [.int i] = some (.str s) := by
  refine repr_of_ok ?_
  obtain rfl | rfl | rfl : i = 0 ∨ i = 1 ∨ i = -1 := by omega
  · rfl
  · rfl
  · rfl
theorem repr_two (b : Bool) : ∃ s, reprF [.list [.bool b, .bool false]] = some (.str s) := by
  refine repr_of_ok ?_
  cases b <;> rfl
/-- what a case gives -/
structure Ck (L : Nat) (ps : Ps) (T : List Int) : Prop where
  h : Gl ps L
  L1 : L ≤ 23
  s : Ser ps (gt T)
  s0 : 0 ≤ Ssum ps / 24
  ok : okI L = true
  ib : (idxL (fac L) L).natAbs < 1000
  bd : bnd ps L = (Bd ps L : Int)
  sh : shN ps ≤ Bd ps L
  li : wgt ps * lix (prL L) L / 12 = (Bd ps L : Int)
  lb : (lix (prL L) L).natAbs < 1000
  sg : lsgn ps L = sgn ps
  pn : 0 < (pr7 ps L).length
  pp : ∀ p ∈ pr7 ps L, okP L ps T p = true
theorem ck_of {L : Nat} {ps : Ps} {T : List Int} (h : okC L ps T = true) (s : Ser ps (gt T)) : Ck L ps T := by
  unfold okC at h
  simp only [Bool.and_eq_true] at h
  obtain ⟨h1, h2, h3, h4, h5, h6, h7, h8, h9, h10, h11, h12, h13, h14, h15⟩ := h
  have h1 := of_decide_eq_true h1
  have h3 := of_decide_eq_true h3
  have h4 := of_decide_eq_true h4
  have L1 : L ≤ 120 := by omega
  exact { h := ⟨⟨h1, fun q hq => of_decide_eq_true (List.all_eq_true.mp h2 q hq), h3⟩, h4.1, L1, h5⟩, L1 := h4.2, s := s, s0 := of_decide_eq_true h6, ok := h7, ib := of_decide_eq_true h8, bd := of_decide_eq_true h9, sh := of_decide_eq_true h10, li := of_decide_eq_true h11, lb := of_decide_eq_true h12, sg := of_decide_eq_true h13, pn := of_decide_eq_true h14, pp := fun p hp => List.all_eq_true.mp h15 p hp }
theorem pr7_mem {ps : Ps} {L p : Nat} (h : p ∈ pr7 ps L) : 3 ≤ p ∧ p ≤ 19 ∧ L % p ≠ 0 ∧ p * (Bd ps L + 3) < 96 := by
  unfold pr7 at h
  obtain ⟨a, b⟩ := List.mem_filter.mp h
  rw [Bool.and_eq_true] at b
  have a2 : 3 ≤ p ∧ p ≤ 19 := by
    simp only [List.mem_cons, List.not_mem_nil, or_false] at a
    omega
  exact ⟨a2.1, a2.2, of_decide_eq_true b.1, of_decide_eq_true b.2⟩
theorem gc_of {L : Nat} {ps : Ps} {T : List Int} (c : Ck L ps T) {p : Nat} (hp : p ∈ pr7 ps L) : Gc ps (gt T) L p (Bd ps L) ∧ lsym (sgn ps) p = sym (sgn ps) p := by
  have m := pr7_mem hp
  have k := c.pp p hp
  unfold okP at k
  rw [Bool.and_eq_true, Bool.and_eq_true] at k
  obtain ⟨k1, k2, k3⟩ := k
  exact ⟨{ h := c.h, s := c.s, s0 := c.s0, p3 := m.1, pb := by omega, f := of_decide_eq_true k1, d := m.2.2.1, ok := c.ok, ib := c.ib, bd := c.bd, hK := by omega, sh := c.sh, fb := of_decide_eq_true k3 }, of_decide_eq_true k2⟩
theorem shp_nl (L : List Nat) : SeqAt.shaped (.list (nl L)) = true := by
  have : nl L = (L.map fun (n : Nat) => (n : Int)).map PyData.int := by unfold nl; rw [List.map_map]; rfl
  rw [this]; exact shp_ints _
theorem ne_nil {L : List Nat} (h : 0 < L.length) : eqF false (.list (nl L)) (.list []) = some (.bool false) := by
  have s1 := shp_nl L
  have s2 : SeqAt.shaped (.list []) = true := rfl
  cases L with
  | nil => cases h
  | cons a r =>
    unfold eqF
    simp only [s1, s2, and_self, if_true]
    rfl
theorem shp_due (ps : Ps) (A : Nat → Int) (p : Nat) (o : Option Nat) : SeqAt.shaped (dueD ps A p o) = true := by
  cases o with
  | none =>
    unfold dueD
    simp [SeqAt.shaped, PyData.canLay0, PyData.canLayAll0, PyData.depth, PyData.depthAll]
    decide +kernel
  | some n =>
    unfold dueD
    simp [SeqAt.shaped, PyData.canLay0, PyData.canLayAll0, PyData.depth, PyData.depthAll]
    decide +kernel
theorem right_true (π : Pot) (h : PotOk π) : ∃ π', F_law_right π [] = some (.bool true, π') := by
  obtain ⟨x, q2, π1, hx, hq, dr, p1⟩ := drawn_ok h
  obtain ⟨e, he, e1, e2⟩ : ∃ e ∈ cs, e.1 = x.1 ∧ e.2.1 = fin (mer x.2 q2) := by
    have a := List.all_eq_true.mp cs_all x hx
    have b := List.all_eq_true.mp a q2 hq
    obtain ⟨e, h1, h2⟩ := List.any_eq_true.mp b
    exact ⟨e, h1, of_decide_eq_true h2⟩
  obtain ⟨k1, k2⟩ := cs_ok e he
  obtain ⟨L, ps, T⟩ := e
  have e1 : L = x.1 := e1
  have e2 : ps = fin (mer x.2 q2) := e2
  rw [← e1, ← e2] at dr
  have c : Ck L ps T := ck_of k1 k2
  clear e1 e2 k1 k2 he hx hq
  have L0 := c.h.L0
  have L1 := c.L1
  have as := law_asked_eq c.h.g (by obtain ⟨_, _, _, _, _, w, _⟩ := c.h.all; exact w) L0 L1 c.lb c.li
  have sg := law_sign_eq c.h.g L0 L1
  rw [c.sg] at sg
  generalize hB : Bd ps L = B at *
  have X := lc_gen (tg := gN 13) (tt := xAnd (xT (xOp (eqF true) (xOp modF (xBo 1) (xBo 13)) (xC (.int 0)))) (xT (xOp (cmpF fun i j => decide (i < j)) (xOp mulF (xBo 13) (xOp addF (xBo 3) (xC (.int 3)))) (xC (.int 96))))) (el := xVar 13) (ρw := [.pot, .dat (.int (L : Int)), .dat (Pd ps), .dat (.int (B : Int)), .dat (.int (sgn ps)), .un, .un, .un, .un, .un, .un, .un, .un, .un]) (π := π1) (fun p : Nat => PyData.int (p : Int)) (fun p => decide (L % p ≠ 0) && decide (p * (B + 3) < 96)) (fun p => .int (p : Int)) [3, 5, 7, 11, 13, 17, 19] fun p hp => by
    have p0 : 3 ≤ p ∧ p ≤ 19 := by
      simp only [List.mem_cons, List.not_mem_nil, or_false] at hp
      omega
    refine ⟨[.pot, .dat (.int (L : Int)), .dat (Pd ps), .dat (.int (B : Int)), .dat (.int (sgn ps)), .un, .un, .un, .un, .un, .un, .un, .un, .dat (.int (p : Int))], rfl, ?_, fun _ => rfl⟩
    have m := modN (n := L) (x := p) (by omega) (by omega)
    have eq := eqF_int true ((L % p : Nat) : Int) 0
    have d : (!decide (((L % p : Nat) : Int) = 0)) = decide (L % p ≠ 0) := by
      by_cases c : L % p = 0
      · simp [c]
      · have : ¬ ((L % p : Nat) : Int) = 0 := by omega
        simp only [decide_eq_false this, decide_eq_true c]; rfl
    simp only [if_true] at eq
    rw [d] at eq
    have ad : addF (.int (B : Int)) (.int 3) = some (.int ((B + 3 : Nat) : Int)) := by
      show some (PyData.int ((B : Int) + 3)) = _
      congr 2
    have Bl : B < 10000 := by
      have := c.pn
      have hs := c.bd
      obtain ⟨_, _, _, _, _, w, _⟩ := c.h.all
      obtain ⟨p', hp'⟩ := List.exists_mem_of_length_pos c.pn
      have m := pr7_mem hp'
      have : Bd ps L + 3 ≤ p' * (Bd ps L + 3) := Nat.le_mul_of_pos_left _ (by omega)
      omega
    have mm := mulF_of (i := (p : Int)) (j := ((B + 3 : Nat) : Int)) (mulOk_of (a := 12) (b := 20) (by omega) (by omega))
    rw [show (p : Int) * ((B + 3 : Nat) : Int) = ((p * (B + 3) : Nat) : Int) by push_cast; rfl] at mm
    have cm : cmpF (fun i j => decide (i < j)) (.int ((p * (B + 3) : Nat) : Int)) (.int 96) = some (.bool (decide (p * (B + 3) < 96))) := by
      have : decide (((p * (B + 3) : Nat) : Int) < 96) = decide (p * (B + 3) < 96) := by rw [decide_eq_decide]; omega
      rw [← this]; simp
    generalize ((p * (B + 3) : Nat) : Int) = Z1 at *
    generalize ((B + 3 : Nat) : Int) = Z2 at *
    generalize ((L % p : Nat) : Int) = Z3 at *
    generalize decide (p * (B + 3) < 96) = B2 at *
    generalize decide (L % p ≠ 0) = B1 at *
    generalize Pd ps = P at *
    cases B1 <;> simp [m, eq, ad, mm, cm, -modF, -addF, -cmpF]
  have pr : ([3, 5, 7, 11, 13, 17, 19] : List Nat).filter (fun p => decide (L % p ≠ 0) && decide (p * (B + 3) < 96)) = pr7 ps L := by unfold pr7; rw [hB]
  rw [pr] at X
  have X : lcGo _ _ _ _ [.int 3, .int 5, .int 7, .int 11, .int 13, .int 17, .int 19] π1 = some (nl (pr7 ps L), π1) := X
  have nn := ne_nil c.pn
  obtain ⟨j, d, π2, f1, f2, p2⟩ := pick_ok p1 (xs := nl (pr7 ps L)) (by rw [nl_length]; exact c.pn) (by
    rw [nl_length]
    unfold pr7
    have := List.length_filter_le (fun p => decide (L % p ≠ 0) && decide (p * (Bd ps L + 3) < 96)) [3, 5, 7, 11, 13, 17, 19]
    simp only [List.length_cons, List.length_nil] at this
    omega)
  obtain ⟨p, hp, rfl⟩ := List.mem_map.mp (List.mem_of_getElem? f1)
  obtain ⟨g, sy⟩ := gc_of c hp
  rw [hB] at g
  have gm := pr7_mem hp
  rw [hB] at gm
  have B3 : B + 3 ≤ p * (B + 3) := Nat.le_mul_of_pos_left _ (by omega)
  have sh := g.sh
  have ad : addF (.int (B : Int)) (.int 3) = some (.int ((B + 3 : Nat) : Int)) := by
    show some (PyData.int ((B : Int) + 3)) = _
    congr 2
  have mm := mulF_of (i := (p : Int)) (j := ((B + 3 : Nat) : Int)) (mulOk_of (a := 12) (b := 20) (by omega) (by omega))
  rw [show (p : Int) * ((B + 3 : Nat) : Int) = ((p * (B + 3) : Nat) : Int) by push_cast; rfl] at mm
  have lp := law_placed_eq c.h.g c.s c.s0 (N := p * (B + 3)) (by omega) (by omega) (by omega)
  have lc := law_carried_eq g sy
  have plr := placed_row_eq c.h c.s c.s0 (N := B + 3) (by omega) (by omega)
  have cu : cutA (.list (rowI (p * (B + 3)) (bp ps (gt T)))) none (some ((B + 3 : Nat) : Int)) = some (.list (rowI (B + 3) (bp ps (gt T)))) := by
    have := cut_take (rowI (p * (B + 3)) (bp ps (gt T))) (B + 3) (by rw [rowI_length]; omega)
    rw [rowI_take _ (by omega)] at this
    exact congrArg (fun z => some (PyData.list z)) this
  have pa := places_asked_eq c.h c.ok c.ib
  rw [c.bd, hB] at pa
  have cr := carried_row_eq c.h c.s c.s0 g.p3 g.pb g.f g.d (K := B + 3) (by omega) (by omega) (by omega)
  have sa := symbol_at_eq c.h g.p3 g.pb g.f g.d
  have ls := law_symbol_eq (x := sgn ps) g.p3 g.pb
  rw [sy] at ls
  obtain ⟨s, es⟩ := repr_small (sym_abs (sgn ps) p)
  have shf := shift_eq c.h.g c.s0
  have ld := law_due_eq g (N := p * (B + 3)) (by omega) (by omega)
  have dm := decided_multiple_eq g
  have ix : ixF (.list (rowI (B + 3) (bq ps (gt T) p))) (.int (shN ps : Int)) = some (.int (num ps (gt T) p)) := by
    have : atI (rowI (B + 3) (bq ps (gt T) p)) (shN ps : Int) = some (.int (num ps (gt T) p)) := by rw [rowI_at (by omega) (by omega)]; rfl
    simpa [ixF] using this
  have im1 := is_multiple_eq g (num ps (gt T) p)
  have im2 := is_multiple_eq g (num ps (gt T) p + 1)
  have q1 := eqF_self true (shp_row (B + 3) (bp ps (gt T)))
  have q2 := eqF_self true (shp_row (B + 3) (bq ps (gt T) p))
  have q3 := eqF_self true (shp_due ps (gt T) p (fstB ps (gt T) p (B + 1)))
  have qB := eqF_self true (d := .int (B : Int)) rfl
  have qs : ∀ s : Str, eqF true (.str s) (.str s) = some (.bool false) := fun s => by simp [eqF]
  have qs2 : ∀ s : Str, eqF false (.str s) (.str s) = some (.bool true) := fun s => by simp [eqF]
  have rl : (rowI (B + 3) (bq ps (gt T) p)).length < 100000 := by rw [rowI_length]; omega
  have isn : ∀ o, isNF false (dueD ps (gt T) p o) .none = some (.bool false) := fun o => by cases o <;> rfl
  have isn := isn (fstB ps (gt T) p (B + 1))
  have two : ∀ o, ∃ w b, ixF (dueD ps (gt T) p o) (.int 0) = some (.str w) ∧ eqF false (.str w) (.str "multiple") = some (.bool b) ∧ isM ps (gt T) p o (num ps (gt T) p) = b ∧ isM ps (gt T) p o (num ps (gt T) p + 1) = false := by
    intro o
    cases o with
    | none =>
      refine ⟨"multiple", true, rfl, qs2 _, ?_, ?_⟩
      · unfold isM; simp
      · unfold isM
        exact decide_eq_false (by omega)
    | some n =>
      refine ⟨"place", false, rfl, ?_, rfl, rfl⟩
      simp [eqF]
      decide +kernel
  obtain ⟨w, b, t1, t2, t3, t4⟩ := two (fstB ps (gt T) p (B + 1))
  rw [t3] at im1
  rw [t4] at im2
  obtain ⟨s2, es2⟩ := repr_two b
  have an : addF (.int (num ps (gt T) p)) (.int 1) = some (.int (num ps (gt T) p + 1)) := rfl
  have ll : (nl (pr7 ps L)).length ≤ 100000 := by
    rw [nl_length]
    unfold pr7
    have := List.length_filter_le (fun p => decide (L % p ≠ 0) && decide (p * (Bd ps L + 3) < 96)) [3, 5, 7, 11, 13, 17, 19]
    simp only [List.length_cons, List.length_nil] at this
    omega
  refine ⟨π2, ?_⟩
  generalize dueD ps (gt T) p (fstB ps (gt T) p (B + 1)) = DD at *
  generalize num ps (gt T) p + 1 = W1 at *
  generalize num ps (gt T) p = W at *
  generalize rowI (p * (B + 3)) (bp ps (gt T)) = R1 at *
  generalize rowI (B + 3) (bp ps (gt T)) = R2 at *
  generalize rowI (B + 3) (bq ps (gt T) p) = R3 at *
  generalize ((p * (B + 3) : Nat) : Int) = Z1 at *
  generalize ((B + 3 : Nat) : Int) = Z2 at *
  generalize nl (pr7 ps L) = R4 at *
  generalize (shN ps : Int) = SH at *
  generalize sym (sgn ps) p = SY at *
  generalize sgn ps = SG at *
  generalize Pd ps = P at *
  simp [F_law_right, B_law_right, dr, as, sg, X, nn, f2, ad, mm, lp, lc, plr, cu, q1, pa, qB, cr, q2, sa, ls, es, qs, qs2, rl, shf, ld, isn, dm, q3, ix, im1, im2, an, t1, t2, es2, -reprF, -addF, -ixF, -cutA, -lcGo, -modF, -cmpF, -isNF]
end K81

noncomputable section
namespace K81
open PySem PySem.Spec PyProof.Rows L2 EP FL
section
variable {P : Program} {w : World} {K : PySem.W.Frag} {mg : Str → Option Value} {base : Heap}

def spLaw (K : PySem.W.Frag) : Sp := fun vs H Q _ => ∃ (a : Addr) (ns : List Int), vs = [.ref a] ∧ SqL K H a (ns.map V.int) ∧ ns.length ≤ 63 ∧ ∀ H', Q (.bl true) H'
theorem ok_law (T : Tx K mg) : GOk P w K mg base 10 T.f_law T.fd_law ["script"] (spLaw K) := by
  have G_law_right := ok_law_right (P := P) (w := w) (base := base) T
  have G_law_pot := ok_law_pot (P := P) (w := w) (base := base) T
  refine gok T.F_law sc_law (fun vs H Q E h => ?_) (fun cdv A outer s H vs Q hg hr h => ?_)
  · obtain ⟨a, ns, rfl, _⟩ := h
    rfl
  · obtain ⟨a, ns, rfl, hS, hl, q⟩ := h
    refine ⟨_, (pss_one (ps_ret (pe_gcall (by exact hg) G_law_right (hr.mono (by decide)) (by rfl) T.m_law_right T.F_law_right.kp T.b_law_right (pa_cons (pe_call G_law_pot (hr.mono (by decide)) (by rfl) T.m_law_pot T.F_law_pot.kp T.b_law_pot .nil pass0 (pa_cons (pv 0) (pa_cons pe_int pa_nil))) pa_nil)))), ?_⟩
    obtain ⟨p0, p1, er0, h0⟩ := pot_true ns hl
    refine ⟨.ref a, rfl, a, ns, 0, _, rfl, hS, er0, fun v H1 k1 dn => ?_⟩
    obtain ⟨p, xs, ds, rfl, ed, np, ep, _, dd⟩ := dn
    cases ed
    obtain rfl := dvInts (ns := [p0, p1]) dd
    obtain ⟨π', er⟩ := right_true [p0, p1] ⟨p0, p1, rfl, h0⟩
    refine ⟨fun b => b = p, p, [], [p0, p1], [], _, π', rfl, (fun b z => by rw [z, ep]; intro y; cases y), rfl, ep, trivial, er, fun v H' _ _ dv => ?_⟩
    rw [if_neg (by decide)] at dv
    cases dv
    exact q H'
end
theorem all_mk {l : PySem.W.OpenLaw} {w : World} {K : PySem.W.Frag} {h : Heap} {mg : Str → Option Value} {fa f1 f2 f3 f4 f5 f6 f7 f8 f9 f10 f11 f12 f13 f14 f15 f16 f17 f18 f19 f20 f21 f22 f23 f24 f25 f26 f27 f28 f29 f30 f31 f32 f33 f34 f35 f36 f37 f38 f39 f40 f41 f42 f43 f44 f45 f46 f47 f48 f49 f50 f51 f52 f53 f54 f55 f56 f57 f58 f59 f60 f61 f62 f63 f64 f65 f66 f67 f68 : Addr} (X : K.In h) (G : h.Ns mainGlobals mg) (hfa : mg "law" = some (.ref fa))
    {od1 an1 : Option Addr} {sl1 : Array (Option Value)} {oc1 kV1 dc1 pm1 cd1 ct1 : Value}
    {od2 an2 : Option Addr} {sl2 : Array (Option Value)} {oc2 kV2 dc2 pm2 cd2 ct2 : Value}
    {od3 an3 : Option Addr} {sl3 : Array (Option Value)} {oc3 kV3 dc3 pm3 cd3 ct3 : Value}
    {od4 an4 : Option Addr} {sl4 : Array (Option Value)} {oc4 kV4 dc4 pm4 cd4 ct4 : Value}
    {od5 an5 : Option Addr} {sl5 : Array (Option Value)} {oc5 kV5 dc5 pm5 cd5 ct5 : Value}
    {od6 an6 : Option Addr} {sl6 : Array (Option Value)} {oc6 kV6 dc6 pm6 cd6 ct6 : Value}
    {od7 an7 : Option Addr} {sl7 : Array (Option Value)} {oc7 kV7 dc7 pm7 cd7 ct7 : Value}
    {od8 an8 : Option Addr} {sl8 : Array (Option Value)} {oc8 kV8 dc8 pm8 cd8 ct8 : Value}
    {od9 an9 : Option Addr} {sl9 : Array (Option Value)} {oc9 kV9 dc9 pm9 cd9 ct9 : Value}
    {od10 an10 : Option Addr} {sl10 : Array (Option Value)} {oc10 kV10 dc10 pm10 cd10 ct10 : Value}
    {od11 an11 : Option Addr} {sl11 : Array (Option Value)} {oc11 kV11 dc11 pm11 cd11 ct11 : Value}
    {od12 an12 : Option Addr} {sl12 : Array (Option Value)} {oc12 kV12 dc12 pm12 cd12 ct12 : Value}
    {od13 an13 : Option Addr} {sl13 : Array (Option Value)} {oc13 kV13 dc13 pm13 cd13 ct13 : Value}
    {od14 an14 : Option Addr} {sl14 : Array (Option Value)} {oc14 kV14 dc14 pm14 cd14 ct14 : Value}
    {od15 an15 : Option Addr} {sl15 : Array (Option Value)} {oc15 kV15 dc15 pm15 cd15 ct15 : Value}
    {od16 an16 : Option Addr} {sl16 : Array (Option Value)} {oc16 kV16 dc16 pm16 cd16 ct16 : Value}
    {od17 an17 : Option Addr} {sl17 : Array (Option Value)} {oc17 kV17 dc17 pm17 cd17 ct17 : Value}
    {od18 an18 : Option Addr} {sl18 : Array (Option Value)} {oc18 kV18 dc18 pm18 cd18 ct18 : Value}
    {od19 an19 : Option Addr} {sl19 : Array (Option Value)} {oc19 kV19 dc19 pm19 cd19 ct19 : Value}
    {od20 an20 : Option Addr} {sl20 : Array (Option Value)} {oc20 kV20 dc20 pm20 cd20 ct20 : Value}
    {od21 an21 : Option Addr} {sl21 : Array (Option Value)} {oc21 kV21 dc21 pm21 cd21 ct21 : Value}
    {od22 an22 : Option Addr} {sl22 : Array (Option Value)} {oc22 kV22 dc22 pm22 cd22 ct22 : Value}
    {od23 an23 : Option Addr} {sl23 : Array (Option Value)} {oc23 kV23 dc23 pm23 cd23 ct23 : Value}
    {od24 an24 : Option Addr} {sl24 : Array (Option Value)} {oc24 kV24 dc24 pm24 cd24 ct24 : Value}
    {od25 an25 : Option Addr} {sl25 : Array (Option Value)} {oc25 kV25 dc25 pm25 cd25 ct25 : Value}
    {od26 an26 : Option Addr} {sl26 : Array (Option Value)} {oc26 kV26 dc26 pm26 cd26 ct26 : Value}
    {od27 an27 : Option Addr} {sl27 : Array (Option Value)} {oc27 kV27 dc27 pm27 cd27 ct27 : Value}
    {od28 an28 : Option Addr} {sl28 : Array (Option Value)} {oc28 kV28 dc28 pm28 cd28 ct28 : Value}
    {od29 an29 : Option Addr} {sl29 : Array (Option Value)} {oc29 kV29 dc29 pm29 cd29 ct29 : Value}
    {od30 an30 : Option Addr} {sl30 : Array (Option Value)} {oc30 kV30 dc30 pm30 cd30 ct30 : Value}
    {od31 an31 : Option Addr} {sl31 : Array (Option Value)} {oc31 kV31 dc31 pm31 cd31 ct31 : Value}
    {od32 an32 : Option Addr} {sl32 : Array (Option Value)} {oc32 kV32 dc32 pm32 cd32 ct32 : Value}
    {od33 an33 : Option Addr} {sl33 : Array (Option Value)} {oc33 kV33 dc33 pm33 cd33 ct33 : Value}
    {od34 an34 : Option Addr} {sl34 : Array (Option Value)} {oc34 kV34 dc34 pm34 cd34 ct34 : Value}
    {od35 an35 : Option Addr} {sl35 : Array (Option Value)} {oc35 kV35 dc35 pm35 cd35 ct35 : Value}
    {od36 an36 : Option Addr} {sl36 : Array (Option Value)} {oc36 kV36 dc36 pm36 cd36 ct36 : Value}
    {od37 an37 : Option Addr} {sl37 : Array (Option Value)} {oc37 kV37 dc37 pm37 cd37 ct37 : Value}
    {od38 an38 : Option Addr} {sl38 : Array (Option Value)} {oc38 kV38 dc38 pm38 cd38 ct38 : Value}
    {od39 an39 : Option Addr} {sl39 : Array (Option Value)} {oc39 kV39 dc39 pm39 cd39 ct39 : Value}
    {od40 an40 : Option Addr} {sl40 : Array (Option Value)} {oc40 kV40 dc40 pm40 cd40 ct40 : Value}
    {od41 an41 : Option Addr} {sl41 : Array (Option Value)} {oc41 kV41 dc41 pm41 cd41 ct41 : Value}
    {od42 an42 : Option Addr} {sl42 : Array (Option Value)} {oc42 kV42 dc42 pm42 cd42 ct42 : Value}
    {od43 an43 : Option Addr} {sl43 : Array (Option Value)} {oc43 kV43 dc43 pm43 cd43 ct43 : Value}
    {od44 an44 : Option Addr} {sl44 : Array (Option Value)} {oc44 kV44 dc44 pm44 cd44 ct44 : Value}
    {od45 an45 : Option Addr} {sl45 : Array (Option Value)} {oc45 kV45 dc45 pm45 cd45 ct45 : Value}
    {od46 an46 : Option Addr} {sl46 : Array (Option Value)} {oc46 kV46 dc46 pm46 cd46 ct46 : Value}
    {od47 an47 : Option Addr} {sl47 : Array (Option Value)} {oc47 kV47 dc47 pm47 cd47 ct47 : Value}
    {od48 an48 : Option Addr} {sl48 : Array (Option Value)} {oc48 kV48 dc48 pm48 cd48 ct48 : Value}
    {od49 an49 : Option Addr} {sl49 : Array (Option Value)} {oc49 kV49 dc49 pm49 cd49 ct49 : Value}
    {od50 an50 : Option Addr} {sl50 : Array (Option Value)} {oc50 kV50 dc50 pm50 cd50 ct50 : Value}
    {od51 an51 : Option Addr} {sl51 : Array (Option Value)} {oc51 kV51 dc51 pm51 cd51 ct51 : Value}
    {od52 an52 : Option Addr} {sl52 : Array (Option Value)} {oc52 kV52 dc52 pm52 cd52 ct52 : Value}
    {od53 an53 : Option Addr} {sl53 : Array (Option Value)} {oc53 kV53 dc53 pm53 cd53 ct53 : Value}
    {od54 an54 : Option Addr} {sl54 : Array (Option Value)} {oc54 kV54 dc54 pm54 cd54 ct54 : Value}
    {od55 an55 : Option Addr} {sl55 : Array (Option Value)} {oc55 kV55 dc55 pm55 cd55 ct55 : Value}
    {od56 an56 : Option Addr} {sl56 : Array (Option Value)} {oc56 kV56 dc56 pm56 cd56 ct56 : Value}
    {od57 an57 : Option Addr} {sl57 : Array (Option Value)} {oc57 kV57 dc57 pm57 cd57 ct57 : Value}
    {od58 an58 : Option Addr} {sl58 : Array (Option Value)} {oc58 kV58 dc58 pm58 cd58 ct58 : Value}
    {od59 an59 : Option Addr} {sl59 : Array (Option Value)} {oc59 kV59 dc59 pm59 cd59 ct59 : Value}
    {od60 an60 : Option Addr} {sl60 : Array (Option Value)} {oc60 kV60 dc60 pm60 cd60 ct60 : Value}
    {od61 an61 : Option Addr} {sl61 : Array (Option Value)} {oc61 kV61 dc61 pm61 cd61 ct61 : Value}
    {od62 an62 : Option Addr} {sl62 : Array (Option Value)} {oc62 kV62 dc62 pm62 cd62 ct62 : Value}
    {od63 an63 : Option Addr} {sl63 : Array (Option Value)} {oc63 kV63 dc63 pm63 cd63 ct63 : Value}
    {od64 an64 : Option Addr} {sl64 : Array (Option Value)} {oc64 kV64 dc64 pm64 cd64 ct64 : Value}
    {od65 an65 : Option Addr} {sl65 : Array (Option Value)} {oc65 kV65 dc65 pm65 cd65 ct65 : Value}
    {od66 an66 : Option Addr} {sl66 : Array (Option Value)} {oc66 kV66 dc66 pm66 cd66 ct66 : Value}
    {od67 an67 : Option Addr} {sl67 : Array (Option Value)} {oc67 kV67 dc67 pm67 cd67 ct67 : Value}
    {od68 an68 : Option Addr} {sl68 : Array (Option Value)} {oc68 kV68 dc68 pm68 cd68 ct68 : Value}
    (a1 : PySem.W.nsIn K mainGlobals "is_integer" = some (some (.ref f1))) (l1 : K.lookup f1 = some ⟨oc1, od1, .func (PySem.W.fnOf "is_integer" "is_integer" (defArgs s_is_integer) (defBody s_is_integer) (defScope s_is_integer) .none kV1 dc1 pm1 an1 cd1 ct1), sl1⟩) (c1 : PySem.W.codeIn K cd1 "is_integer" = true) (k1 : PySem.W.keepIn K (.ref f1) = true)
    (a2 : PySem.W.nsIn K mainGlobals "is_within" = some (some (.ref f2))) (l2 : K.lookup f2 = some ⟨oc2, od2, .func (PySem.W.fnOf "is_within" "is_within" (defArgs s_is_within) (defBody s_is_within) (defScope s_is_within) .none kV2 dc2 pm2 an2 cd2 ct2), sl2⟩) (c2 : PySem.W.codeIn K cd2 "is_within" = true) (k2 : PySem.W.keepIn K (.ref f2) = true)
    (a3 : PySem.W.nsIn K mainGlobals "is_tagged" = some (some (.ref f3))) (l3 : K.lookup f3 = some ⟨oc3, od3, .func (PySem.W.fnOf "is_tagged" "is_tagged" (defArgs s_is_tagged) (defBody s_is_tagged) (defScope s_is_tagged) .none kV3 dc3 pm3 an3 cd3 ct3), sl3⟩) (c3 : PySem.W.codeIn K cd3 "is_tagged" = true) (k3 : PySem.W.keepIn K (.ref f3) = true)
    (a4 : PySem.W.nsIn K mainGlobals "is_pair" = some (some (.ref f4))) (l4 : K.lookup f4 = some ⟨oc4, od4, .func (PySem.W.fnOf "is_pair" "is_pair" (defArgs s_is_pair) (defBody s_is_pair) (defScope s_is_pair) .none kV4 dc4 pm4 an4 cd4 ct4), sl4⟩) (c4 : PySem.W.codeIn K cd4 "is_pair" = true) (k4 : PySem.W.keepIn K (.ref f4) = true)
    (a5 : PySem.W.nsIn K mainGlobals "is_rising" = some (some (.ref f5))) (l5 : K.lookup f5 = some ⟨oc5, od5, .func (PySem.W.fnOf "is_rising" "is_rising" (defArgs s_is_rising) (defBody s_is_rising) (defScope s_is_rising) .none kV5 dc5 pm5 an5 cd5 ct5), sl5⟩) (c5 : PySem.W.codeIn K cd5 "is_rising" = true) (k5 : PySem.W.keepIn K (.ref f5) = true)
    (a6 : PySem.W.nsIn K mainGlobals "check_many" = some (some (.ref f6))) (l6 : K.lookup f6 = some ⟨oc6, od6, .func (PySem.W.fnOf "check_many" "check_many" (defArgs s_check_many) (defBody s_check_many) (defScope s_check_many) .none kV6 dc6 pm6 an6 cd6 ct6), sl6⟩) (c6 : PySem.W.codeIn K cd6 "check_many" = true) (k6 : PySem.W.keepIn K (.ref f6) = true)
    (a7 : PySem.W.nsIn K mainGlobals "check_number" = some (some (.ref f7))) (l7 : K.lookup f7 = some ⟨oc7, od7, .func (PySem.W.fnOf "check_number" "check_number" (defArgs s_check_number) (defBody s_check_number) (defScope s_check_number) .none kV7 dc7 pm7 an7 cd7 ct7), sl7⟩) (c7 : PySem.W.codeIn K cd7 "check_number" = true) (k7 : PySem.W.keepIn K (.ref f7) = true)
    (a8 : PySem.W.nsIn K mainGlobals "check_integer" = some (some (.ref f8))) (l8 : K.lookup f8 = some ⟨oc8, od8, .func (PySem.W.fnOf "check_integer" "check_integer" (defArgs s_check_integer) (defBody s_check_integer) (defScope s_check_integer) .none kV8 dc8 pm8 an8 cd8 ct8), sl8⟩) (c8 : PySem.W.codeIn K cd8 "check_integer" = true) (k8 : PySem.W.keepIn K (.ref f8) = true)
    (a9 : PySem.W.nsIn K mainGlobals "check_level" = some (some (.ref f9))) (l9 : K.lookup f9 = some ⟨oc9, od9, .func (PySem.W.fnOf "check_level" "check_level" (defArgs s_check_level) (defBody s_check_level) (defScope s_check_level) .none kV9 dc9 pm9 an9 cd9 ct9), sl9⟩) (c9 : PySem.W.codeIn K cd9 "check_level" = true) (k9 : PySem.W.keepIn K (.ref f9) = true)
    (a10 : PySem.W.nsIn K mainGlobals "check_digits" = some (some (.ref f10))) (l10 : K.lookup f10 = some ⟨oc10, od10, .func (PySem.W.fnOf "check_digits" "check_digits" (defArgs s_check_digits) (defBody s_check_digits) (defScope s_check_digits) .none kV10 dc10 pm10 an10 cd10 ct10), sl10⟩) (c10 : PySem.W.codeIn K cd10 "check_digits" = true) (k10 : PySem.W.keepIn K (.ref f10) = true)
    (a11 : PySem.W.nsIn K mainGlobals "divisors_of" = some (some (.ref f11))) (l11 : K.lookup f11 = some ⟨oc11, od11, .func (PySem.W.fnOf "divisors_of" "divisors_of" (defArgs s_divisors_of) (defBody s_divisors_of) (defScope s_divisors_of) .none kV11 dc11 pm11 an11 cd11 ct11), sl11⟩) (c11 : PySem.W.codeIn K cd11 "divisors_of" = true) (k11 : PySem.W.keepIn K (.ref f11) = true)
    (a12 : PySem.W.nsIn K mainGlobals "factored" = some (some (.ref f12))) (l12 : K.lookup f12 = some ⟨oc12, od12, .func (PySem.W.fnOf "factored" "factored" (defArgs s_factored) (defBody s_factored) (defScope s_factored) .none kV12 dc12 pm12 an12 cd12 ct12), sl12⟩) (c12 : PySem.W.codeIn K cd12 "factored" = true) (k12 : PySem.W.keepIn K (.ref f12) = true)
    (a13 : PySem.W.nsIn K mainGlobals "is_prime" = some (some (.ref f13))) (l13 : K.lookup f13 = some ⟨oc13, od13, .func (PySem.W.fnOf "is_prime" "is_prime" (defArgs s_is_prime) (defBody s_is_prime) (defScope s_is_prime) .none kV13 dc13 pm13 an13 cd13 ct13), sl13⟩) (c13 : PySem.W.codeIn K cd13 "is_prime" = true) (k13 : PySem.W.keepIn K (.ref f13) = true)
    (a14 : PySem.W.nsIn K mainGlobals "index_of" = some (some (.ref f14))) (l14 : K.lookup f14 = some ⟨oc14, od14, .func (PySem.W.fnOf "index_of" "index_of" (defArgs s_index_of) (defBody s_index_of) (defScope s_index_of) .none kV14 dc14 pm14 an14 cd14 ct14), sl14⟩) (c14 : PySem.W.codeIn K cd14 "index_of" = true) (k14 : PySem.W.keepIn K (.ref f14) = true)
    (a15 : PySem.W.nsIn K mainGlobals "symbol" = some (some (.ref f15))) (l15 : K.lookup f15 = some ⟨oc15, od15, .func (PySem.W.fnOf "symbol" "symbol" (defArgs s_symbol) (defBody s_symbol) (defScope s_symbol) .none kV15 dc15 pm15 an15 cd15 ct15), sl15⟩) (c15 : PySem.W.codeIn K cd15 "symbol" = true) (k15 : PySem.W.keepIn K (.ref f15) = true)
    (a16 : PySem.W.nsIn K mainGlobals "is_product" = some (some (.ref f16))) (l16 : K.lookup f16 = some ⟨oc16, od16, .func (PySem.W.fnOf "is_product" "is_product" (defArgs s_is_product) (defBody s_is_product) (defScope s_is_product) .none kV16 dc16 pm16 an16 cd16 ct16), sl16⟩) (c16 : PySem.W.codeIn K cd16 "is_product" = true) (k16 : PySem.W.keepIn K (.ref f16) = true)
    (a17 : PySem.W.nsIn K mainGlobals "is_step_power" = some (some (.ref f17))) (l17 : K.lookup f17 = some ⟨oc17, od17, .func (PySem.W.fnOf "is_step_power" "is_step_power" (defArgs s_is_step_power) (defBody s_is_step_power) (defScope s_is_step_power) .none kV17 dc17 pm17 an17 cd17 ct17), sl17⟩) (c17 : PySem.W.codeIn K cd17 "is_step_power" = true) (k17 : PySem.W.keepIn K (.ref f17) = true)
    (a18 : PySem.W.nsIn K mainGlobals "check_product" = some (some (.ref f18))) (l18 : K.lookup f18 = some ⟨oc18, od18, .func (PySem.W.fnOf "check_product" "check_product" (defArgs s_check_product) (defBody s_check_product) (defScope s_check_product) .none kV18 dc18 pm18 an18 cd18 ct18), sl18⟩) (c18 : PySem.W.codeIn K cd18 "check_product" = true) (k18 : PySem.W.keepIn K (.ref f18) = true)
    (a19 : PySem.W.nsIn K mainGlobals "odd_primes" = some (some (.ref f19))) (l19 : K.lookup f19 = some ⟨oc19, od19, .func (PySem.W.fnOf "odd_primes" "odd_primes" (defArgs s_odd_primes) (defBody s_odd_primes) (defScope s_odd_primes) .none kV19 dc19 pm19 an19 cd19 ct19), sl19⟩) (c19 : PySem.W.codeIn K cd19 "odd_primes" = true) (k19 : PySem.W.keepIn K (.ref f19) = true)
    (a20 : PySem.W.nsIn K mainGlobals "power_sum" = some (some (.ref f20))) (l20 : K.lookup f20 = some ⟨oc20, od20, .func (PySem.W.fnOf "power_sum" "power_sum" (defArgs s_power_sum) (defBody s_power_sum) (defScope s_power_sum) .none kV20 dc20 pm20 an20 cd20 ct20), sl20⟩) (c20 : PySem.W.codeIn K cd20 "power_sum" = true) (k20 : PySem.W.keepIn K (.ref f20) = true)
    (a21 : PySem.W.nsIn K mainGlobals "shift_sum" = some (some (.ref f21))) (l21 : K.lookup f21 = some ⟨oc21, od21, .func (PySem.W.fnOf "shift_sum" "shift_sum" (defArgs s_shift_sum) (defBody s_shift_sum) (defScope s_shift_sum) .none kV21 dc21 pm21 an21 cd21 ct21), sl21⟩) (c21 : PySem.W.codeIn K cd21 "shift_sum" = true) (k21 : PySem.W.keepIn K (.ref f21) = true)
    (a22 : PySem.W.nsIn K mainGlobals "turned_sum" = some (some (.ref f22))) (l22 : K.lookup f22 = some ⟨oc22, od22, .func (PySem.W.fnOf "turned_sum" "turned_sum" (defArgs s_turned_sum) (defBody s_turned_sum) (defScope s_turned_sum) .none kV22 dc22 pm22 an22 cd22 ct22), sl22⟩) (c22 : PySem.W.codeIn K cd22 "turned_sum" = true) (k22 : PySem.W.keepIn K (.ref f22) = true)
    (a23 : PySem.W.nsIn K mainGlobals "has_steps_of" = some (some (.ref f23))) (l23 : K.lookup f23 = some ⟨oc23, od23, .func (PySem.W.fnOf "has_steps_of" "has_steps_of" (defArgs s_has_steps_of) (defBody s_has_steps_of) (defScope s_has_steps_of) .none kV23 dc23 pm23 an23 cd23 ct23), sl23⟩) (c23 : PySem.W.codeIn K cd23 "has_steps_of" = true) (k23 : PySem.W.keepIn K (.ref f23) = true)
    (a24 : PySem.W.nsIn K mainGlobals "lacking" = some (some (.ref f24))) (l24 : K.lookup f24 = some ⟨oc24, od24, .func (PySem.W.fnOf "lacking" "lacking" (defArgs s_lacking) (defBody s_lacking) (defScope s_lacking) .none kV24 dc24 pm24 an24 cd24 ct24), sl24⟩) (c24 : PySem.W.codeIn K cd24 "lacking" = true) (k24 : PySem.W.keepIn K (.ref f24) = true)
    (a25 : PySem.W.nsIn K mainGlobals "check_fits" = some (some (.ref f25))) (l25 : K.lookup f25 = some ⟨oc25, od25, .func (PySem.W.fnOf "check_fits" "check_fits" (defArgs s_check_fits) (defBody s_check_fits) (defScope s_check_fits) .none kV25 dc25 pm25 an25 cd25 ct25), sl25⟩) (c25 : PySem.W.codeIn K cd25 "check_fits" = true) (k25 : PySem.W.keepIn K (.ref f25) = true)
    (a26 : PySem.W.nsIn K mainGlobals "kind_told" = some (some (.ref f26))) (l26 : K.lookup f26 = some ⟨oc26, od26, .func (PySem.W.fnOf "kind_told" "kind_told" (defArgs s_kind_told) (defBody s_kind_told) (defScope s_kind_told) .none kV26 dc26 pm26 an26 cd26 ct26), sl26⟩) (c26 : PySem.W.codeIn K cd26 "kind_told" = true) (k26 : PySem.W.keepIn K (.ref f26) = true)
    (a27 : PySem.W.nsIn K mainGlobals "width_at" = some (some (.ref f27))) (l27 : K.lookup f27 = some ⟨oc27, od27, .func (PySem.W.fnOf "width_at" "width_at" (defArgs s_width_at) (defBody s_width_at) (defScope s_width_at) .none kV27 dc27 pm27 an27 cd27 ct27), sl27⟩) (c27 : PySem.W.codeIn K cd27 "width_at" = true) (k27 : PySem.W.keepIn K (.ref f27) = true)
    (a28 : PySem.W.nsIn K mainGlobals "order_part" = some (some (.ref f28))) (l28 : K.lookup f28 = some ⟨oc28, od28, .func (PySem.W.fnOf "order_part" "order_part" (defArgs s_order_part) (defBody s_order_part) (defScope s_order_part) .none kV28 dc28 pm28 an28 cd28 ct28), sl28⟩) (c28 : PySem.W.codeIn K cd28 "order_part" = true) (k28 : PySem.W.keepIn K (.ref f28) = true)
    (a29 : PySem.W.nsIn K mainGlobals "order_parts" = some (some (.ref f29))) (l29 : K.lookup f29 = some ⟨oc29, od29, .func (PySem.W.fnOf "order_parts" "order_parts" (defArgs s_order_parts) (defBody s_order_parts) (defScope s_order_parts) .none kV29 dc29 pm29 an29 cd29 ct29), sl29⟩) (c29 : PySem.W.codeIn K cd29 "order_parts" = true) (k29 : PySem.W.keepIn K (.ref f29) = true)
    (a30 : PySem.W.nsIn K mainGlobals "row_by_powers" = some (some (.ref f30))) (l30 : K.lookup f30 = some ⟨oc30, od30, .func (PySem.W.fnOf "row_by_powers" "row_by_powers" (defArgs s_row_by_powers) (defBody s_row_by_powers) (defScope s_row_by_powers) .none kV30 dc30 pm30 an30 cd30 ct30), sl30⟩) (c30 : PySem.W.codeIn K cd30 "row_by_powers" = true) (k30 : PySem.W.keepIn K (.ref f30) = true)
    (a31 : PySem.W.nsIn K mainGlobals "sums_of" = some (some (.ref f31))) (l31 : K.lookup f31 = some ⟨oc31, od31, .func (PySem.W.fnOf "sums_of" "sums_of" (defArgs s_sums_of) (defBody s_sums_of) (defScope s_sums_of) .none kV31 dc31 pm31 an31 cd31 ct31), sl31⟩) (c31 : PySem.W.codeIn K cd31 "sums_of" = true) (k31 : PySem.W.keepIn K (.ref f31) = true)
    (a32 : PySem.W.nsIn K mainGlobals "numbers_of" = some (some (.ref f32))) (l32 : K.lookup f32 = some ⟨oc32, od32, .func (PySem.W.fnOf "numbers_of" "numbers_of" (defArgs s_numbers_of) (defBody s_numbers_of) (defScope s_numbers_of) .none kV32 dc32 pm32 an32 cd32 ct32), sl32⟩) (c32 : PySem.W.codeIn K cd32 "numbers_of" = true) (k32 : PySem.W.keepIn K (.ref f32) = true)
    (a33 : PySem.W.nsIn K mainGlobals "placed_row" = some (some (.ref f33))) (l33 : K.lookup f33 = some ⟨oc33, od33, .func (PySem.W.fnOf "placed_row" "placed_row" (defArgs s_placed_row) (defBody s_placed_row) (defScope s_placed_row) .none kV33 dc33 pm33 an33 cd33 ct33), sl33⟩) (c33 : PySem.W.codeIn K cd33 "placed_row" = true) (k33 : PySem.W.keepIn K (.ref f33) = true)
    (a34 : PySem.W.nsIn K mainGlobals "check_carried" = some (some (.ref f34))) (l34 : K.lookup f34 = some ⟨oc34, od34, .func (PySem.W.fnOf "check_carried" "check_carried" (defArgs s_check_carried) (defBody s_check_carried) (defScope s_check_carried) .none kV34 dc34 pm34 an34 cd34 ct34), sl34⟩) (c34 : PySem.W.codeIn K cd34 "check_carried" = true) (k34 : PySem.W.keepIn K (.ref f34) = true)
    (a35 : PySem.W.nsIn K mainGlobals "is_carried" = some (some (.ref f35))) (l35 : K.lookup f35 = some ⟨oc35, od35, .func (PySem.W.fnOf "is_carried" "is_carried" (defArgs s_is_carried) (defBody s_is_carried) (defScope s_is_carried) .none kV35 dc35 pm35 an35 cd35 ct35), sl35⟩) (c35 : PySem.W.codeIn K cd35 "is_carried" = true) (k35 : PySem.W.keepIn K (.ref f35) = true)
    (a36 : PySem.W.nsIn K mainGlobals "first_placed" = some (some (.ref f36))) (l36 : K.lookup f36 = some ⟨oc36, od36, .func (PySem.W.fnOf "first_placed" "first_placed" (defArgs s_first_placed) (defBody s_first_placed) (defScope s_first_placed) .none kV36 dc36 pm36 an36 cd36 ct36), sl36⟩) (c36 : PySem.W.codeIn K cd36 "first_placed" = true) (k36 : PySem.W.keepIn K (.ref f36) = true)
    (a37 : PySem.W.nsIn K mainGlobals "placed_numbers" = some (some (.ref f37))) (l37 : K.lookup f37 = some ⟨oc37, od37, .func (PySem.W.fnOf "placed_numbers" "placed_numbers" (defArgs s_placed_numbers) (defBody s_placed_numbers) (defScope s_placed_numbers) .none kV37 dc37 pm37 an37 cd37 ct37), sl37⟩) (c37 : PySem.W.codeIn K cd37 "placed_numbers" = true) (k37 : PySem.W.keepIn K (.ref f37) = true)
    (a38 : PySem.W.nsIn K mainGlobals "is_serving_prime" = some (some (.ref f38))) (l38 : K.lookup f38 = some ⟨oc38, od38, .func (PySem.W.fnOf "is_serving_prime" "is_serving_prime" (defArgs s_is_serving_prime) (defBody s_is_serving_prime) (defScope s_is_serving_prime) .none kV38 dc38 pm38 an38 cd38 ct38), sl38⟩) (c38 : PySem.W.codeIn K cd38 "is_serving_prime" = true) (k38 : PySem.W.keepIn K (.ref f38) = true)
    (a39 : PySem.W.nsIn K mainGlobals "check_prime" = some (some (.ref f39))) (l39 : K.lookup f39 = some ⟨oc39, od39, .func (PySem.W.fnOf "check_prime" "check_prime" (defArgs s_check_prime) (defBody s_check_prime) (defScope s_check_prime) .none kV39 dc39 pm39 an39 cd39 ct39), sl39⟩) (c39 : PySem.W.codeIn K cd39 "check_prime" = true) (k39 : PySem.W.keepIn K (.ref f39) = true)
    (a40 : PySem.W.nsIn K mainGlobals "carried_row" = some (some (.ref f40))) (l40 : K.lookup f40 = some ⟨oc40, od40, .func (PySem.W.fnOf "carried_row" "carried_row" (defArgs s_carried_row) (defBody s_carried_row) (defScope s_carried_row) .none kV40 dc40 pm40 an40 cd40 ct40), sl40⟩) (c40 : PySem.W.codeIn K cd40 "carried_row" = true) (k40 : PySem.W.keepIn K (.ref f40) = true)
    (a41 : PySem.W.nsIn K mainGlobals "carried_numbers" = some (some (.ref f41))) (l41 : K.lookup f41 = some ⟨oc41, od41, .func (PySem.W.fnOf "carried_numbers" "carried_numbers" (defArgs s_carried_numbers) (defBody s_carried_numbers) (defScope s_carried_numbers) .none kV41 dc41 pm41 an41 cd41 ct41), sl41⟩) (c41 : PySem.W.codeIn K cd41 "carried_numbers" = true) (k41 : PySem.W.keepIn K (.ref f41) = true)
    (a42 : PySem.W.nsIn K mainGlobals "carried_by" = some (some (.ref f42))) (l42 : K.lookup f42 = some ⟨oc42, od42, .func (PySem.W.fnOf "carried_by" "carried_by" (defArgs s_carried_by) (defBody s_carried_by) (defScope s_carried_by) .none kV42 dc42 pm42 an42 cd42 ct42), sl42⟩) (c42 : PySem.W.codeIn K cd42 "carried_by" = true) (k42 : PySem.W.keepIn K (.ref f42) = true)
    (a43 : PySem.W.nsIn K mainGlobals "symbol_at" = some (some (.ref f43))) (l43 : K.lookup f43 = some ⟨oc43, od43, .func (PySem.W.fnOf "symbol_at" "symbol_at" (defArgs s_symbol_at) (defBody s_symbol_at) (defScope s_symbol_at) .none kV43 dc43 pm43 an43 cd43 ct43), sl43⟩) (c43 : PySem.W.codeIn K cd43 "symbol_at" = true) (k43 : PySem.W.keepIn K (.ref f43) = true)
    (a44 : PySem.W.nsIn K mainGlobals "places_asked" = some (some (.ref f44))) (l44 : K.lookup f44 = some ⟨oc44, od44, .func (PySem.W.fnOf "places_asked" "places_asked" (defArgs s_places_asked) (defBody s_places_asked) (defScope s_places_asked) .none kV44 dc44 pm44 an44 cd44 ct44), sl44⟩) (c44 : PySem.W.codeIn K cd44 "places_asked" = true) (k44 : PySem.W.keepIn K (.ref f44) = true)
    (a45 : PySem.W.nsIn K mainGlobals "last_asked" = some (some (.ref f45))) (l45 : K.lookup f45 = some ⟨oc45, od45, .func (PySem.W.fnOf "last_asked" "last_asked" (defArgs s_last_asked) (defBody s_last_asked) (defScope s_last_asked) .none kV45 dc45 pm45 an45 cd45 ct45), sl45⟩) (c45 : PySem.W.codeIn K cd45 "last_asked" = true) (k45 : PySem.W.keepIn K (.ref f45) = true)
    (a46 : PySem.W.nsIn K mainGlobals "decided_multiple" = some (some (.ref f46))) (l46 : K.lookup f46 = some ⟨oc46, od46, .func (PySem.W.fnOf "decided_multiple" "decided_multiple" (defArgs s_decided_multiple) (defBody s_decided_multiple) (defScope s_decided_multiple) .none kV46 dc46 pm46 an46 cd46 ct46), sl46⟩) (c46 : PySem.W.codeIn K cd46 "decided_multiple" = true) (k46 : PySem.W.keepIn K (.ref f46) = true)
    (a47 : PySem.W.nsIn K mainGlobals "check_asked" = some (some (.ref f47))) (l47 : K.lookup f47 = some ⟨oc47, od47, .func (PySem.W.fnOf "check_asked" "check_asked" (defArgs s_check_asked) (defBody s_check_asked) (defScope s_check_asked) .none kV47 dc47 pm47 an47 cd47 ct47), sl47⟩) (c47 : PySem.W.codeIn K cd47 "check_asked" = true) (k47 : PySem.W.keepIn K (.ref f47) = true)
    (a48 : PySem.W.nsIn K mainGlobals "check_places" = some (some (.ref f48))) (l48 : K.lookup f48 = some ⟨oc48, od48, .func (PySem.W.fnOf "check_places" "check_places" (defArgs s_check_places) (defBody s_check_places) (defScope s_check_places) .none kV48 dc48 pm48 an48 cd48 ct48), sl48⟩) (c48 : PySem.W.codeIn K cd48 "check_places" = true) (k48 : PySem.W.keepIn K (.ref f48) = true)
    (a49 : PySem.W.nsIn K mainGlobals "placed_to" = some (some (.ref f49))) (l49 : K.lookup f49 = some ⟨oc49, od49, .func (PySem.W.fnOf "placed_to" "placed_to" (defArgs s_placed_to) (defBody s_placed_to) (defScope s_placed_to) .none kV49 dc49 pm49 an49 cd49 ct49), sl49⟩) (c49 : PySem.W.codeIn K cd49 "placed_to" = true) (k49 : PySem.W.keepIn K (.ref f49) = true)
    (a50 : PySem.W.nsIn K mainGlobals "decided" = some (some (.ref f50))) (l50 : K.lookup f50 = some ⟨oc50, od50, .func (PySem.W.fnOf "decided" "decided" (defArgs s_decided) (defBody s_decided) (defScope s_decided) .none kV50 dc50 pm50 an50 cd50 ct50), sl50⟩) (c50 : PySem.W.codeIn K cd50 "decided" = true) (k50 : PySem.W.keepIn K (.ref f50) = true)
    (a51 : PySem.W.nsIn K mainGlobals "first_beside" = some (some (.ref f51))) (l51 : K.lookup f51 = some ⟨oc51, od51, .func (PySem.W.fnOf "first_beside" "first_beside" (defArgs s_first_beside) (defBody s_first_beside) (defScope s_first_beside) .none kV51 dc51 pm51 an51 cd51 ct51), sl51⟩) (c51 : PySem.W.codeIn K cd51 "first_beside" = true) (k51 : PySem.W.keepIn K (.ref f51) = true)
    (a52 : PySem.W.nsIn K mainGlobals "is_multiple" = some (some (.ref f52))) (l52 : K.lookup f52 = some ⟨oc52, od52, .func (PySem.W.fnOf "is_multiple" "is_multiple" (defArgs s_is_multiple) (defBody s_is_multiple) (defScope s_is_multiple) .none kV52 dc52 pm52 an52 cd52 ct52), sl52⟩) (c52 : PySem.W.codeIn K cd52 "is_multiple" = true) (k52 : PySem.W.keepIn K (.ref f52) = true)
    (a53 : PySem.W.nsIn K mainGlobals "_law_pot" = some (some (.ref f53))) (l53 : K.lookup f53 = some ⟨oc53, od53, .func (PySem.W.fnOf "_law_pot" "_law_pot" (defArgs s_law_pot) (defBody s_law_pot) (defScope s_law_pot) .none kV53 dc53 pm53 an53 cd53 ct53), sl53⟩) (c53 : PySem.W.codeIn K cd53 "_law_pot" = true) (k53 : PySem.W.keepIn K (.ref f53) = true)
    (a54 : PySem.W.nsIn K mainGlobals "_law_draw" = some (some (.ref f54))) (l54 : K.lookup f54 = some ⟨oc54, od54, .func (PySem.W.fnOf "_law_draw" "_law_draw" (defArgs s_law_draw) (defBody s_law_draw) (defScope s_law_draw) .none kV54 dc54 pm54 an54 cd54 ct54), sl54⟩) (c54 : PySem.W.codeIn K cd54 "_law_draw" = true) (k54 : PySem.W.keepIn K (.ref f54) = true)
    (a55 : PySem.W.nsIn K mainGlobals "_law_pick" = some (some (.ref f55))) (l55 : K.lookup f55 = some ⟨oc55, od55, .func (PySem.W.fnOf "_law_pick" "_law_pick" (defArgs s_law_pick) (defBody s_law_pick) (defScope s_law_pick) .none kV55 dc55 pm55 an55 cd55 ct55), sl55⟩) (c55 : PySem.W.codeIn K cd55 "_law_pick" = true) (k55 : PySem.W.keepIn K (.ref f55) = true)
    (a56 : PySem.W.nsIn K mainGlobals "_law_primes" = some (some (.ref f56))) (l56 : K.lookup f56 = some ⟨oc56, od56, .func (PySem.W.fnOf "_law_primes" "_law_primes" (defArgs s_law_primes) (defBody s_law_primes) (defScope s_law_primes) .none kV56 dc56 pm56 an56 cd56 ct56), sl56⟩) (c56 : PySem.W.codeIn K cd56 "_law_primes" = true) (k56 : PySem.W.keepIn K (.ref f56) = true)
    (a57 : PySem.W.nsIn K mainGlobals "_law_some" = some (some (.ref f57))) (l57 : K.lookup f57 = some ⟨oc57, od57, .func (PySem.W.fnOf "_law_some" "_law_some" (defArgs s_law_some) (defBody s_law_some) (defScope s_law_some) .none kV57 dc57 pm57 an57 cd57 ct57), sl57⟩) (c57 : PySem.W.codeIn K cd57 "_law_some" = true) (k57 : PySem.W.keepIn K (.ref f57) = true)
    (a58 : PySem.W.nsIn K mainGlobals "_law_drawn" = some (some (.ref f58))) (l58 : K.lookup f58 = some ⟨oc58, od58, .func (PySem.W.fnOf "_law_drawn" "_law_drawn" (defArgs s_law_drawn) (defBody s_law_drawn) (defScope s_law_drawn) .none kV58 dc58 pm58 an58 cd58 ct58), sl58⟩) (c58 : PySem.W.codeIn K cd58 "_law_drawn" = true) (k58 : PySem.W.keepIn K (.ref f58) = true)
    (a59 : PySem.W.nsIn K mainGlobals "_law_weight" = some (some (.ref f59))) (l59 : K.lookup f59 = some ⟨oc59, od59, .func (PySem.W.fnOf "_law_weight" "_law_weight" (defArgs s_law_weight) (defBody s_law_weight) (defScope s_law_weight) .none kV59 dc59 pm59 an59 cd59 ct59), sl59⟩) (c59 : PySem.W.codeIn K cd59 "_law_weight" = true) (k59 : PySem.W.keepIn K (.ref f59) = true)
    (a60 : PySem.W.nsIn K mainGlobals "_law_shift" = some (some (.ref f60))) (l60 : K.lookup f60 = some ⟨oc60, od60, .func (PySem.W.fnOf "_law_shift" "_law_shift" (defArgs s_law_shift) (defBody s_law_shift) (defScope s_law_shift) .none kV60 dc60 pm60 an60 cd60 ct60), sl60⟩) (c60 : PySem.W.codeIn K cd60 "_law_shift" = true) (k60 : PySem.W.keepIn K (.ref f60) = true)
    (a61 : PySem.W.nsIn K mainGlobals "_law_sign" = some (some (.ref f61))) (l61 : K.lookup f61 = some ⟨oc61, od61, .func (PySem.W.fnOf "_law_sign" "_law_sign" (defArgs s_law_sign) (defBody s_law_sign) (defScope s_law_sign) .none kV61 dc61 pm61 an61 cd61 ct61), sl61⟩) (c61 : PySem.W.codeIn K cd61 "_law_sign" = true) (k61 : PySem.W.keepIn K (.ref f61) = true)
    (a62 : PySem.W.nsIn K mainGlobals "_law_symbol" = some (some (.ref f62))) (l62 : K.lookup f62 = some ⟨oc62, od62, .func (PySem.W.fnOf "_law_symbol" "_law_symbol" (defArgs s_law_symbol) (defBody s_law_symbol) (defScope s_law_symbol) .none kV62 dc62 pm62 an62 cd62 ct62), sl62⟩) (c62 : PySem.W.codeIn K cd62 "_law_symbol" = true) (k62 : PySem.W.keepIn K (.ref f62) = true)
    (a63 : PySem.W.nsIn K mainGlobals "_law_placed" = some (some (.ref f63))) (l63 : K.lookup f63 = some ⟨oc63, od63, .func (PySem.W.fnOf "_law_placed" "_law_placed" (defArgs s_law_placed) (defBody s_law_placed) (defScope s_law_placed) .none kV63 dc63 pm63 an63 cd63 ct63), sl63⟩) (c63 : PySem.W.codeIn K cd63 "_law_placed" = true) (k63 : PySem.W.keepIn K (.ref f63) = true)
    (a64 : PySem.W.nsIn K mainGlobals "_law_carried" = some (some (.ref f64))) (l64 : K.lookup f64 = some ⟨oc64, od64, .func (PySem.W.fnOf "_law_carried" "_law_carried" (defArgs s_law_carried) (defBody s_law_carried) (defScope s_law_carried) .none kV64 dc64 pm64 an64 cd64 ct64), sl64⟩) (c64 : PySem.W.codeIn K cd64 "_law_carried" = true) (k64 : PySem.W.keepIn K (.ref f64) = true)
    (a65 : PySem.W.nsIn K mainGlobals "_law_asked" = some (some (.ref f65))) (l65 : K.lookup f65 = some ⟨oc65, od65, .func (PySem.W.fnOf "_law_asked" "_law_asked" (defArgs s_law_asked) (defBody s_law_asked) (defScope s_law_asked) .none kV65 dc65 pm65 an65 cd65 ct65), sl65⟩) (c65 : PySem.W.codeIn K cd65 "_law_asked" = true) (k65 : PySem.W.keepIn K (.ref f65) = true)
    (a66 : PySem.W.nsIn K mainGlobals "_law_due" = some (some (.ref f66))) (l66 : K.lookup f66 = some ⟨oc66, od66, .func (PySem.W.fnOf "_law_due" "_law_due" (defArgs s_law_due) (defBody s_law_due) (defScope s_law_due) .none kV66 dc66 pm66 an66 cd66 ct66), sl66⟩) (c66 : PySem.W.codeIn K cd66 "_law_due" = true) (k66 : PySem.W.keepIn K (.ref f66) = true)
    (a67 : PySem.W.nsIn K mainGlobals "_law_right" = some (some (.ref f67))) (l67 : K.lookup f67 = some ⟨oc67, od67, .func (PySem.W.fnOf "_law_right" "_law_right" (defArgs s_law_right) (defBody s_law_right) (defScope s_law_right) .none kV67 dc67 pm67 an67 cd67 ct67), sl67⟩) (c67 : PySem.W.codeIn K cd67 "_law_right" = true) (k67 : PySem.W.keepIn K (.ref f67) = true)
    (a68 : PySem.W.nsIn K mainGlobals "law" = some (some (.ref f68))) (l68 : K.lookup f68 = some ⟨oc68, od68, .func (PySem.W.fnOf "law" "law" (defArgs s_law) (defBody s_law) (defScope s_law) .none kV68 dc68 pm68 an68 cd68 ct68), sl68⟩) (c68 : PySem.W.codeIn K cd68 "law" = true) (k68 : PySem.W.keepIn K (.ref f68) = true)
    (z_abs : PySem.W.nsIn K mainGlobals "abs" = some none)
    (z_all : PySem.W.nsIn K mainGlobals "all" = some none)
    (z_any : PySem.W.nsIn K mainGlobals "any" = some none)
    (z_bool : PySem.W.nsIn K mainGlobals "bool" = some none)
    (z_dict : PySem.W.nsIn K mainGlobals "dict" = some none)
    (z_divmod : PySem.W.nsIn K mainGlobals "divmod" = some none)
    (z_enumerate : PySem.W.nsIn K mainGlobals "enumerate" = some none)
    (z_int : PySem.W.nsIn K mainGlobals "int" = some none)
    (z_isinstance : PySem.W.nsIn K mainGlobals "isinstance" = some none)
    (z_len : PySem.W.nsIn K mainGlobals "len" = some none)
    (z_list : PySem.W.nsIn K mainGlobals "list" = some none)
    (z_max : PySem.W.nsIn K mainGlobals "max" = some none)
    (z_min : PySem.W.nsIn K mainGlobals "min" = some none)
    (z_range : PySem.W.nsIn K mainGlobals "range" = some none)
    (z_repr : PySem.W.nsIn K mainGlobals "repr" = some none)
    (z_sorted : PySem.W.nsIn K mainGlobals "sorted" = some none)
    (z_str : PySem.W.nsIn K mainGlobals "str" = some none)
    (z_sum : PySem.W.nsIn K mainGlobals "sum" = some none)
    (z_tuple : PySem.W.nsIn K mainGlobals "tuple" = some none)
    (z_zip : PySem.W.nsIn K mainGlobals "zip" = some none)
    (zm_gcd : PySem.W.nsIn K mainGlobals "gcd" = some (some (.builtin "math.gcd")))
    (zm_isqrt : PySem.W.nsIn K mainGlobals "isqrt" = some (some (.builtin "math.isqrt")))
    : ∃ fd : FuncData, (∀ (s : Shared) (v : Value), BindsTo s fd ⟨[v], []⟩ [("script", v)]) ∧ ∀ base : Heap, K.In base → base.Ns mainGlobals mg → GOk l.prog w K mg base 10 fa fd ["script"] (spLaw K) := by
  have e := hfa.symm.trans (PySem.W.mg_of X G a68)
  cases e
  have F1 := fun_mk (st := s_is_integer) l1 c1 k1
  have b1 := F1.binds (ps := ["value"]) fun _ _ _ _ _ _ us hl => match us, hl with | [_], _ => rfl
  have F2 := fun_mk (st := s_is_within) l2 c2 k2
  have b2 := F2.binds (ps := ["value", "low", "high"]) fun _ _ _ _ _ _ us hl => match us, hl with | [_, _, _], _ => rfl
  have F3 := fun_mk (st := s_is_tagged) l3 c3 k3
  have b3 := F3.binds (ps := ["value", "word", "length"]) fun _ _ _ _ _ _ us hl => match us, hl with | [_, _, _], _ => rfl
  have F4 := fun_mk (st := s_is_pair) l4 c4 k4
  have b4 := F4.binds (ps := ["value"]) fun _ _ _ _ _ _ us hl => match us, hl with | [_], _ => rfl
  have F5 := fun_mk (st := s_is_rising) l5 c5 k5
  have b5 := F5.binds (ps := ["numbers"]) fun _ _ _ _ _ _ us hl => match us, hl with | [_], _ => rfl
  have F6 := fun_mk (st := s_check_many) l6 c6 k6
  have b6 := F6.binds (ps := ["many", "most"]) fun _ _ _ _ _ _ us hl => match us, hl with | [_, _], _ => rfl
  have F7 := fun_mk (st := s_check_number) l7 c7 k7
  have b7 := F7.binds (ps := ["number", "low", "high"]) fun _ _ _ _ _ _ us hl => match us, hl with | [_, _, _], _ => rfl
  have F8 := fun_mk (st := s_check_integer) l8 c8 k8
  have b8 := F8.binds (ps := ["number"]) fun _ _ _ _ _ _ us hl => match us, hl with | [_], _ => rfl
  have F9 := fun_mk (st := s_check_level) l9 c9 k9
  have b9 := F9.binds (ps := ["level"]) fun _ _ _ _ _ _ us hl => match us, hl with | [_], _ => rfl
  have F10 := fun_mk (st := s_check_digits) l10 c10 k10
  have b10 := F10.binds (ps := ["numbers"]) fun _ _ _ _ _ _ us hl => match us, hl with | [_], _ => rfl
  have F11 := fun_mk (st := s_divisors_of) l11 c11 k11
  have b11 := F11.binds (ps := ["number"]) fun _ _ _ _ _ _ us hl => match us, hl with | [_], _ => rfl
  have F12 := fun_mk (st := s_factored) l12 c12 k12
  have b12 := F12.binds (ps := ["number"]) fun _ _ _ _ _ _ us hl => match us, hl with | [_], _ => rfl
  have F13 := fun_mk (st := s_is_prime) l13 c13 k13
  have b13 := F13.binds (ps := ["value"]) fun _ _ _ _ _ _ us hl => match us, hl with | [_], _ => rfl
  have F14 := fun_mk (st := s_index_of) l14 c14 k14
  have b14 := F14.binds (ps := ["level"]) fun _ _ _ _ _ _ us hl => match us, hl with | [_], _ => rfl
  have F15 := fun_mk (st := s_symbol) l15 c15 k15
  have b15 := F15.binds (ps := ["first", "prime"]) fun _ _ _ _ _ _ us hl => match us, hl with | [_, _], _ => rfl
  have F16 := fun_mk (st := s_is_product) l16 c16 k16
  have b16 := F16.binds (ps := ["value"]) fun _ _ _ _ _ _ us hl => match us, hl with | [_], _ => rfl
  have F17 := fun_mk (st := s_is_step_power) l17 c17 k17
  have b17 := F17.binds (ps := ["value"]) fun _ _ _ _ _ _ us hl => match us, hl with | [_], _ => rfl
  have F18 := fun_mk (st := s_check_product) l18 c18 k18
  have b18 := F18.binds (ps := ["product"]) fun _ _ _ _ _ _ us hl => match us, hl with | [_], _ => rfl
  have F19 := fun_mk (st := s_odd_primes) l19 c19 k19
  have b19 := F19.binds (ps := ["number"]) fun _ _ _ _ _ _ us hl => match us, hl with | [_], _ => rfl
  have F20 := fun_mk (st := s_power_sum) l20 c20 k20
  have b20 := F20.binds (ps := ["product"]) fun _ _ _ _ _ _ us hl => match us, hl with | [_], _ => rfl
  have F21 := fun_mk (st := s_shift_sum) l21 c21 k21
  have b21 := F21.binds (ps := ["product"]) fun _ _ _ _ _ _ us hl => match us, hl with | [_], _ => rfl
  have F22 := fun_mk (st := s_turned_sum) l22 c22 k22
  have b22 := F22.binds (ps := ["product", "level"]) fun _ _ _ _ _ _ us hl => match us, hl with | [_, _], _ => rfl
  have F23 := fun_mk (st := s_has_steps_of) l23 c23 k23
  have b23 := F23.binds (ps := ["product", "level"]) fun _ _ _ _ _ _ us hl => match us, hl with | [_, _], _ => rfl
  have F24 := fun_mk (st := s_lacking) l24 c24 k24
  have b24 := F24.binds (ps := ["product", "level"]) fun _ _ _ _ _ _ us hl => match us, hl with | [_, _], _ => rfl
  have F25 := fun_mk (st := s_check_fits) l25 c25 k25
  have b25 := F25.binds (ps := ["product", "level"]) fun _ _ _ _ _ _ us hl => match us, hl with | [_, _], _ => rfl
  have F26 := fun_mk (st := s_kind_told) l26 c26 k26
  have b26 := F26.binds (ps := ["product"]) fun _ _ _ _ _ _ us hl => match us, hl with | [_], _ => rfl
  have F27 := fun_mk (st := s_width_at) l27 c27 k27
  have b27 := F27.binds (ps := ["level", "end"]) fun _ _ _ _ _ _ us hl => match us, hl with | [_, _], _ => rfl
  have F28 := fun_mk (st := s_order_part) l28 c28 k28
  have b28 := F28.binds (ps := ["product", "level", "end"]) fun _ _ _ _ _ _ us hl => match us, hl with | [_, _, _], _ => rfl
  have F29 := fun_mk (st := s_order_parts) l29 c29 k29
  have b29 := F29.binds (ps := ["product", "level"]) fun _ _ _ _ _ _ us hl => match us, hl with | [_, _], _ => rfl
  have F30 := fun_mk (st := s_row_by_powers) l30 c30 k30
  have b30 := F30.binds (ps := ["powers", "many"]) fun _ _ _ _ _ _ us hl => match us, hl with | [_, _], _ => rfl
  have F31 := fun_mk (st := s_sums_of) l31 c31 k31
  have b31 := F31.binds (ps := ["powers", "many"]) fun _ _ _ _ _ _ us hl => match us, hl with | [_, _], _ => rfl
  have F32 := fun_mk (st := s_numbers_of) l32 c32 k32
  have b32 := F32.binds (ps := ["product", "many"]) fun _ _ _ _ _ _ us hl => match us, hl with | [_, _], _ => rfl
  have F33 := fun_mk (st := s_placed_row) l33 c33 k33
  have b33 := F33.binds (ps := ["level", "product", "many"]) fun _ _ _ _ _ _ us hl => match us, hl with | [_, _, _], _ => rfl
  have F34 := fun_mk (st := s_check_carried) l34 c34 k34
  have b34 := F34.binds (ps := ["level", "product"]) fun _ _ _ _ _ _ us hl => match us, hl with | [_, _], _ => rfl
  have F35 := fun_mk (st := s_is_carried) l35 c35 k35
  have b35 := F35.binds (ps := ["level", "product"]) fun _ _ _ _ _ _ us hl => match us, hl with | [_, _], _ => rfl
  have F36 := fun_mk (st := s_first_placed) l36 c36 k36
  have b36 := F36.binds (ps := ["product"]) fun _ _ _ _ _ _ us hl => match us, hl with | [_], _ => rfl
  have F37 := fun_mk (st := s_placed_numbers) l37 c37 k37
  have b37 := F37.binds (ps := ["product", "many"]) fun _ _ _ _ _ _ us hl => match us, hl with | [_, _], _ => rfl
  have F38 := fun_mk (st := s_is_serving_prime) l38 c38 k38
  have b38 := F38.binds (ps := ["level", "prime"]) fun _ _ _ _ _ _ us hl => match us, hl with | [_, _], _ => rfl
  have F39 := fun_mk (st := s_check_prime) l39 c39 k39
  have b39 := F39.binds (ps := ["level", "prime"]) fun _ _ _ _ _ _ us hl => match us, hl with | [_, _], _ => rfl
  have F40 := fun_mk (st := s_carried_row) l40 c40 k40
  have b40 := F40.binds (ps := ["level", "product", "prime", "many"]) fun _ _ _ _ _ _ us hl => match us, hl with | [_, _, _, _], _ => rfl
  have F41 := fun_mk (st := s_carried_numbers) l41 c41 k41
  have b41 := F41.binds (ps := ["product", "placed", "prime", "many"]) fun _ _ _ _ _ _ us hl => match us, hl with | [_, _, _, _], _ => rfl
  have F42 := fun_mk (st := s_carried_by) l42 c42 k42
  have b42 := F42.binds (ps := ["product", "prime"]) fun _ _ _ _ _ _ us hl => match us, hl with | [_, _], _ => rfl
  have F43 := fun_mk (st := s_symbol_at) l43 c43 k43
  have b43 := F43.binds (ps := ["level", "product", "prime"]) fun _ _ _ _ _ _ us hl => match us, hl with | [_, _, _], _ => rfl
  have F44 := fun_mk (st := s_places_asked) l44 c44 k44
  have b44 := F44.binds (ps := ["level", "product"]) fun _ _ _ _ _ _ us hl => match us, hl with | [_, _], _ => rfl
  have F45 := fun_mk (st := s_last_asked) l45 c45 k45
  have b45 := F45.binds (ps := ["level", "product"]) fun _ _ _ _ _ _ us hl => match us, hl with | [_, _], _ => rfl
  have F46 := fun_mk (st := s_decided_multiple) l46 c46 k46
  have b46 := F46.binds (ps := ["level", "product", "prime"]) fun _ _ _ _ _ _ us hl => match us, hl with | [_, _, _], _ => rfl
  have F47 := fun_mk (st := s_check_asked) l47 c47 k47
  have b47 := F47.binds (ps := ["level", "product", "prime"]) fun _ _ _ _ _ _ us hl => match us, hl with | [_, _, _], _ => rfl
  have F48 := fun_mk (st := s_check_places) l48 c48 k48
  have b48 := F48.binds (ps := ["level", "product", "prime"]) fun _ _ _ _ _ _ us hl => match us, hl with | [_, _, _], _ => rfl
  have F49 := fun_mk (st := s_placed_to) l49 c49 k49
  have b49 := F49.binds (ps := ["level", "product", "prime"]) fun _ _ _ _ _ _ us hl => match us, hl with | [_, _, _], _ => rfl
  have F50 := fun_mk (st := s_decided) l50 c50 k50
  have b50 := F50.binds (ps := ["level", "product", "prime", "placed"]) fun _ _ _ _ _ _ us hl => match us, hl with | [_, _, _, _], _ => rfl
  have F51 := fun_mk (st := s_first_beside) l51 c51 k51
  have b51 := F51.binds (ps := ["placed", "carried", "number"]) fun _ _ _ _ _ _ us hl => match us, hl with | [_, _, _], _ => rfl
  have F52 := fun_mk (st := s_is_multiple) l52 c52 k52
  have b52 := F52.binds (ps := ["level", "product", "prime", "number"]) fun _ _ _ _ _ _ us hl => match us, hl with | [_, _, _, _], _ => rfl
  have F53 := fun_mk (st := s_law_pot) l53 c53 k53
  have b53 := F53.binds (ps := ["script", "k"]) fun _ _ _ _ _ _ us hl => match us, hl with | [_, _], _ => rfl
  have F54 := fun_mk (st := s_law_draw) l54 c54 k54
  have b54 := F54.binds (ps := ["pot", "many"]) fun _ _ _ _ _ _ us hl => match us, hl with | [_, _], _ => rfl
  have F55 := fun_mk (st := s_law_pick) l55 c55 k55
  have b55 := F55.binds (ps := ["pot", "some"]) fun _ _ _ _ _ _ us hl => match us, hl with | [_, _], _ => rfl
  have F56 := fun_mk (st := s_law_primes) l56 c56 k56
  have b56 := F56.binds (ps := ["number"]) fun _ _ _ _ _ _ us hl => match us, hl with | [_], _ => rfl
  have F57 := fun_mk (st := s_law_some) l57 c57 k57
  have b57 := F57.binds (ps := []) fun _ _ _ _ _ _ us hl => match us, hl with | [], _ => rfl
  have F58 := fun_mk (st := s_law_drawn) l58 c58 k58
  have b58 := F58.binds (ps := ["pot"]) fun _ _ _ _ _ _ us hl => match us, hl with | [_], _ => rfl
  have F59 := fun_mk (st := s_law_weight) l59 c59 k59
  have b59 := F59.binds (ps := ["product"]) fun _ _ _ _ _ _ us hl => match us, hl with | [_], _ => rfl
  have F60 := fun_mk (st := s_law_shift) l60 c60 k60
  have b60 := F60.binds (ps := ["product"]) fun _ _ _ _ _ _ us hl => match us, hl with | [_], _ => rfl
  have F61 := fun_mk (st := s_law_sign) l61 c61 k61
  have b61 := F61.binds (ps := ["level", "product"]) fun _ _ _ _ _ _ us hl => match us, hl with | [_, _], _ => rfl
  have F62 := fun_mk (st := s_law_symbol) l62 c62 k62
  have b62 := F62.binds (ps := ["number", "prime"]) fun _ _ _ _ _ _ us hl => match us, hl with | [_, _], _ => rfl
  have F63 := fun_mk (st := s_law_placed) l63 c63 k63
  have b63 := F63.binds (ps := ["product", "many"]) fun _ _ _ _ _ _ us hl => match us, hl with | [_, _], _ => rfl
  have F64 := fun_mk (st := s_law_carried) l64 c64 k64
  have b64 := F64.binds (ps := ["product", "sign", "prime", "placed", "many"]) fun _ _ _ _ _ _ us hl => match us, hl with | [_, _, _, _, _], _ => rfl
  have F65 := fun_mk (st := s_law_asked) l65 c65 k65
  have b65 := F65.binds (ps := ["level", "product"]) fun _ _ _ _ _ _ us hl => match us, hl with | [_, _], _ => rfl
  have F66 := fun_mk (st := s_law_due) l66 c66 k66
  have b66 := F66.binds (ps := ["placed", "carried", "shift", "bound"]) fun _ _ _ _ _ _ us hl => match us, hl with | [_, _, _, _], _ => rfl
  have F67 := fun_mk (st := s_law_right) l67 c67 k67
  have b67 := F67.binds (ps := ["pot"]) fun _ _ _ _ _ _ us hl => match us, hl with | [_], _ => rfl
  have F68 := fun_mk (st := s_law) l68 c68 k68
  have b68 := F68.binds (ps := ["script"]) fun _ _ _ _ _ _ us hl => match us, hl with | [_], _ => rfl
  have kb_kb_places_asked_0 : KBinds K (PySem.W.fnOf "places_asked" "places_asked" (defArgs s_places_asked) (defBody s_places_asked) (defScope s_places_asked) .none kV44 dc44 pm44 an44 cd44 ct44) ["level", "product"] ["product", "level"] (fun us ws => match us, ws with | [], [ws0, ws1] => [ws1, ws0] | _, _ => []) (fun us ws => match us, ws with | [], [ws0, ws1] => [ws1, ws0] | _, _ => []) := by
    refine ⟨fun s us ws _ hl => ?_, fun {vs us zs ws} r1 r2 => ?_⟩
    · match us, ws, hl with
      | [], [_, _], _ => exact .of_eq rfl
    · rcases r1 with _ | ⟨q0, r1⟩ <;> rcases r2 with _ | ⟨p0, r2⟩ <;> (try rcases r2 with _ | ⟨p1, r2⟩) <;> (try rcases r2 with _ | ⟨p2, r2⟩) <;> first | exact .nil | (repeat (first | exact .nil | refine .cons (by assumption) ?_))
  have kb_kb_decided_multiple_1 : KBinds K (PySem.W.fnOf "decided_multiple" "decided_multiple" (defArgs s_decided_multiple) (defBody s_decided_multiple) (defScope s_decided_multiple) .none kV46 dc46 pm46 an46 cd46 ct46) ["level", "product", "prime"] ["prime", "product", "level"] (fun us ws => match us, ws with | [], [ws0, ws1, ws2] => [ws2, ws1, ws0] | _, _ => []) (fun us ws => match us, ws with | [], [ws0, ws1, ws2] => [ws2, ws1, ws0] | _, _ => []) := by
    refine ⟨fun s us ws _ hl => ?_, fun {vs us zs ws} r1 r2 => ?_⟩
    · match us, ws, hl with
      | [], [_, _, _], _ => exact .of_eq rfl
    · rcases r1 with _ | ⟨q0, r1⟩ <;> rcases r2 with _ | ⟨p0, r2⟩ <;> (try rcases r2 with _ | ⟨p1, r2⟩) <;> (try rcases r2 with _ | ⟨p2, r2⟩) <;> (try rcases r2 with _ | ⟨p3, r2⟩) <;> first | exact .nil | (repeat (first | exact .nil | refine .cons (by assumption) ?_))
  have kb_kb_is_multiple_2 : KBinds K (PySem.W.fnOf "is_multiple" "is_multiple" (defArgs s_is_multiple) (defBody s_is_multiple) (defScope s_is_multiple) .none kV52 dc52 pm52 an52 cd52 ct52) ["level", "product", "prime", "number"] ["number", "prime", "product", "level"] (fun us ws => match us, ws with | [], [ws0, ws1, ws2, ws3] => [ws3, ws2, ws1, ws0] | _, _ => []) (fun us ws => match us, ws with | [], [ws0, ws1, ws2, ws3] => [ws3, ws2, ws1, ws0] | _, _ => []) := by
    refine ⟨fun s us ws _ hl => ?_, fun {vs us zs ws} r1 r2 => ?_⟩
    · match us, ws, hl with
      | [], [_, _, _, _], _ => exact .of_eq rfl
    · rcases r1 with _ | ⟨q0, r1⟩ <;> rcases r2 with _ | ⟨p0, r2⟩ <;> (try rcases r2 with _ | ⟨p1, r2⟩) <;> (try rcases r2 with _ | ⟨p2, r2⟩) <;> (try rcases r2 with _ | ⟨p3, r2⟩) <;> (try rcases r2 with _ | ⟨p4, r2⟩) <;> first | exact .nil | (repeat (first | exact .nil | refine .cons (by assumption) ?_))
  let T : Tx K mg := { f_is_integer := f1, fd_is_integer := _, F_is_integer := F1, m_is_integer := PySem.W.mg_of X G a1, b_is_integer := b1, f_is_within := f2, fd_is_within := _, F_is_within := F2, m_is_within := PySem.W.mg_of X G a2, b_is_within := b2, f_is_tagged := f3, fd_is_tagged := _, F_is_tagged := F3, m_is_tagged := PySem.W.mg_of X G a3, b_is_tagged := b3, f_is_pair := f4, fd_is_pair := _, F_is_pair := F4, m_is_pair := PySem.W.mg_of X G a4, b_is_pair := b4, f_is_rising := f5, fd_is_rising := _, F_is_rising := F5, m_is_rising := PySem.W.mg_of X G a5, b_is_rising := b5, f_check_many := f6, fd_check_many := _, F_check_many := F6, m_check_many := PySem.W.mg_of X G a6, b_check_many := b6, f_check_number := f7, fd_check_number := _, F_check_number := F7, m_check_number := PySem.W.mg_of X G a7, b_check_number := b7, f_check_integer := f8, fd_check_integer := _, F_check_integer := F8, m_check_integer := PySem.W.mg_of X G a8, b_check_integer := b8, f_check_level := f9, fd_check_level := _, F_check_level := F9, m_check_level := PySem.W.mg_of X G a9, b_check_level := b9, f_check_digits := f10, fd_check_digits := _, F_check_digits := F10, m_check_digits := PySem.W.mg_of X G a10, b_check_digits := b10, f_divisors_of := f11, fd_divisors_of := _, F_divisors_of := F11, m_divisors_of := PySem.W.mg_of X G a11, b_divisors_of := b11, f_factored := f12, fd_factored := _, F_factored := F12, m_factored := PySem.W.mg_of X G a12, b_factored := b12, f_is_prime := f13, fd_is_prime := _, F_is_prime := F13, m_is_prime := PySem.W.mg_of X G a13, b_is_prime := b13, f_index_of := f14, fd_index_of := _, F_index_of := F14, m_index_of := PySem.W.mg_of X G a14, b_index_of := b14, f_symbol := f15, fd_symbol := _, F_symbol := F15, m_symbol := PySem.W.mg_of X G a15, b_symbol := b15, f_is_product := f16, fd_is_product := _, F_is_product := F16, m_is_product := PySem.W.mg_of X G a16, b_is_product := b16, f_is_step_power := f17, fd_is_step_power := _, F_is_step_power := F17, m_is_step_power := PySem.W.mg_of X G a17, b_is_step_power := b17, f_check_product := f18, fd_check_product := _, F_check_product := F18, m_check_product := PySem.W.mg_of X G a18, b_check_product := b18, f_odd_primes := f19, fd_odd_primes := _, F_odd_primes := F19, m_odd_primes := PySem.W.mg_of X G a19, b_odd_primes := b19, f_power_sum := f20, fd_power_sum := _, F_power_sum := F20, m_power_sum := PySem.W.mg_of X G a20, b_power_sum := b20, f_shift_sum := f21, fd_shift_sum := _, F_shift_sum := F21, m_shift_sum := PySem.W.mg_of X G a21, b_shift_sum := b21, f_turned_sum := f22, fd_turned_sum := _, F_turned_sum := F22, m_turned_sum := PySem.W.mg_of X G a22, b_turned_sum := b22, f_has_steps_of := f23, fd_has_steps_of := _, F_has_steps_of := F23, m_has_steps_of := PySem.W.mg_of X G a23, b_has_steps_of := b23, f_lacking := f24, fd_lacking := _, F_lacking := F24, m_lacking := PySem.W.mg_of X G a24, b_lacking := b24, f_check_fits := f25, fd_check_fits := _, F_check_fits := F25, m_check_fits := PySem.W.mg_of X G a25, b_check_fits := b25, f_kind_told := f26, fd_kind_told := _, F_kind_told := F26, m_kind_told := PySem.W.mg_of X G a26, b_kind_told := b26, f_width_at := f27, fd_width_at := _, F_width_at := F27, m_width_at := PySem.W.mg_of X G a27, b_width_at := b27, f_order_part := f28, fd_order_part := _, F_order_part := F28, m_order_part := PySem.W.mg_of X G a28, b_order_part := b28, f_order_parts := f29, fd_order_parts := _, F_order_parts := F29, m_order_parts := PySem.W.mg_of X G a29, b_order_parts := b29, f_row_by_powers := f30, fd_row_by_powers := _, F_row_by_powers := F30, m_row_by_powers := PySem.W.mg_of X G a30, b_row_by_powers := b30, f_sums_of := f31, fd_sums_of := _, F_sums_of := F31, m_sums_of := PySem.W.mg_of X G a31, b_sums_of := b31, f_numbers_of := f32, fd_numbers_of := _, F_numbers_of := F32, m_numbers_of := PySem.W.mg_of X G a32, b_numbers_of := b32, f_placed_row := f33, fd_placed_row := _, F_placed_row := F33, m_placed_row := PySem.W.mg_of X G a33, b_placed_row := b33, f_check_carried := f34, fd_check_carried := _, F_check_carried := F34, m_check_carried := PySem.W.mg_of X G a34, b_check_carried := b34, f_is_carried := f35, fd_is_carried := _, F_is_carried := F35, m_is_carried := PySem.W.mg_of X G a35, b_is_carried := b35, f_first_placed := f36, fd_first_placed := _, F_first_placed := F36, m_first_placed := PySem.W.mg_of X G a36, b_first_placed := b36, f_placed_numbers := f37, fd_placed_numbers := _, F_placed_numbers := F37, m_placed_numbers := PySem.W.mg_of X G a37, b_placed_numbers := b37, f_is_serving_prime := f38, fd_is_serving_prime := _, F_is_serving_prime := F38, m_is_serving_prime := PySem.W.mg_of X G a38, b_is_serving_prime := b38, f_check_prime := f39, fd_check_prime := _, F_check_prime := F39, m_check_prime := PySem.W.mg_of X G a39, b_check_prime := b39, f_carried_row := f40, fd_carried_row := _, F_carried_row := F40, m_carried_row := PySem.W.mg_of X G a40, b_carried_row := b40, f_carried_numbers := f41, fd_carried_numbers := _, F_carried_numbers := F41, m_carried_numbers := PySem.W.mg_of X G a41, b_carried_numbers := b41, f_carried_by := f42, fd_carried_by := _, F_carried_by := F42, m_carried_by := PySem.W.mg_of X G a42, b_carried_by := b42, f_symbol_at := f43, fd_symbol_at := _, F_symbol_at := F43, m_symbol_at := PySem.W.mg_of X G a43, b_symbol_at := b43, f_places_asked := f44, fd_places_asked := _, F_places_asked := F44, m_places_asked := PySem.W.mg_of X G a44, b_places_asked := b44, f_last_asked := f45, fd_last_asked := _, F_last_asked := F45, m_last_asked := PySem.W.mg_of X G a45, b_last_asked := b45, f_decided_multiple := f46, fd_decided_multiple := _, F_decided_multiple := F46, m_decided_multiple := PySem.W.mg_of X G a46, b_decided_multiple := b46, f_check_asked := f47, fd_check_asked := _, F_check_asked := F47, m_check_asked := PySem.W.mg_of X G a47, b_check_asked := b47, f_check_places := f48, fd_check_places := _, F_check_places := F48, m_check_places := PySem.W.mg_of X G a48, b_check_places := b48, f_placed_to := f49, fd_placed_to := _, F_placed_to := F49, m_placed_to := PySem.W.mg_of X G a49, b_placed_to := b49, f_decided := f50, fd_decided := _, F_decided := F50, m_decided := PySem.W.mg_of X G a50, b_decided := b50, f_first_beside := f51, fd_first_beside := _, F_first_beside := F51, m_first_beside := PySem.W.mg_of X G a51, b_first_beside := b51, f_is_multiple := f52, fd_is_multiple := _, F_is_multiple := F52, m_is_multiple := PySem.W.mg_of X G a52, b_is_multiple := b52, f_law_pot := f53, fd_law_pot := _, F_law_pot := F53, m_law_pot := PySem.W.mg_of X G a53, b_law_pot := b53, f_law_draw := f54, fd_law_draw := _, F_law_draw := F54, m_law_draw := PySem.W.mg_of X G a54, b_law_draw := b54, f_law_pick := f55, fd_law_pick := _, F_law_pick := F55, m_law_pick := PySem.W.mg_of X G a55, b_law_pick := b55, f_law_primes := f56, fd_law_primes := _, F_law_primes := F56, m_law_primes := PySem.W.mg_of X G a56, b_law_primes := b56, f_law_some := f57, fd_law_some := _, F_law_some := F57, m_law_some := PySem.W.mg_of X G a57, b_law_some := b57, f_law_drawn := f58, fd_law_drawn := _, F_law_drawn := F58, m_law_drawn := PySem.W.mg_of X G a58, b_law_drawn := b58, f_law_weight := f59, fd_law_weight := _, F_law_weight := F59, m_law_weight := PySem.W.mg_of X G a59, b_law_weight := b59, f_law_shift := f60, fd_law_shift := _, F_law_shift := F60, m_law_shift := PySem.W.mg_of X G a60, b_law_shift := b60, f_law_sign := f61, fd_law_sign := _, F_law_sign := F61, m_law_sign := PySem.W.mg_of X G a61, b_law_sign := b61, f_law_symbol := f62, fd_law_symbol := _, F_law_symbol := F62, m_law_symbol := PySem.W.mg_of X G a62, b_law_symbol := b62, f_law_placed := f63, fd_law_placed := _, F_law_placed := F63, m_law_placed := PySem.W.mg_of X G a63, b_law_placed := b63, f_law_carried := f64, fd_law_carried := _, F_law_carried := F64, m_law_carried := PySem.W.mg_of X G a64, b_law_carried := b64, f_law_asked := f65, fd_law_asked := _, F_law_asked := F65, m_law_asked := PySem.W.mg_of X G a65, b_law_asked := b65, f_law_due := f66, fd_law_due := _, F_law_due := F66, m_law_due := PySem.W.mg_of X G a66, b_law_due := b66, f_law_right := f67, fd_law_right := _, F_law_right := F67, m_law_right := PySem.W.mg_of X G a67, b_law_right := b67, f_law := fa, fd_law := _, F_law := F68, m_law := PySem.W.mg_of X G a68, b_law := b68, kb_places_asked_0 := kb_kb_places_asked_0, kb_decided_multiple_1 := kb_kb_decided_multiple_1, kb_is_multiple_2 := kb_kb_is_multiple_2, z_abs := PySem.W.mg_none_of X G z_abs, z_all := PySem.W.mg_none_of X G z_all, z_any := PySem.W.mg_none_of X G z_any, z_bool := PySem.W.mg_none_of X G z_bool, z_dict := PySem.W.mg_none_of X G z_dict, z_divmod := PySem.W.mg_none_of X G z_divmod, z_enumerate := PySem.W.mg_none_of X G z_enumerate, z_int := PySem.W.mg_none_of X G z_int, z_isinstance := PySem.W.mg_none_of X G z_isinstance, z_len := PySem.W.mg_none_of X G z_len, z_list := PySem.W.mg_none_of X G z_list, z_max := PySem.W.mg_none_of X G z_max, z_min := PySem.W.mg_none_of X G z_min, z_range := PySem.W.mg_none_of X G z_range, z_repr := PySem.W.mg_none_of X G z_repr, z_sorted := PySem.W.mg_none_of X G z_sorted, z_str := PySem.W.mg_none_of X G z_str, z_sum := PySem.W.mg_none_of X G z_sum, z_tuple := PySem.W.mg_none_of X G z_tuple, z_zip := PySem.W.mg_none_of X G z_zip, m_gcd := PySem.W.mg_of X G zm_gcd, m_isqrt := PySem.W.mg_of X G zm_isqrt }
  exact ⟨T.fd_law, fun s v => .of_eq rfl, fun base _ _ => ok_law T⟩
end K81
open PySem PySem.W PyProof.Rows
set_option maxHeartbeats 0 in
theorem PySem.Challenge.cw_etaparts_k81_whole_numbers_carried_by_pr_holds : PySem.Challenge.rw_etaparts_k81_whole_numbers_carried_by_pr.Holds := by
  w_on; o_law; k_head; (case hw => w_witness2)
  k_fill
  refine EP.walk_run (l := PySem.Challenge.rw_etaparts_k81_whole_numbers_carried_by_pr) (most := 63) (n := 10) (x := "script") (pr := fun w => K81.spLaw _) rfl (by decide) rfl ⟨rfl, by decide, by decide⟩ (fun w h Y => PySem.W.kIn_of Y) ?F (fun _ _ a ns hl _ _ hS => ⟨a, ns, rfl, hS, hl, fun _ => rfl⟩)
  case F =>
    intro w mg fa h KX G hmg
    refine' K81.all_mk KX G hmg ?a1 ?l1 ?c1 ?k1 ?a2 ?l2 ?c2 ?k2 ?a3 ?l3 ?c3 ?k3 ?a4 ?l4 ?c4 ?k4 ?a5 ?l5 ?c5 ?k5 ?a6 ?l6 ?c6 ?k6 ?a7 ?l7 ?c7 ?k7 ?a8 ?l8 ?c8 ?k8 ?a9 ?l9 ?c9 ?k9 ?a10 ?l10 ?c10 ?k10 ?a11 ?l11 ?c11 ?k11 ?a12 ?l12 ?c12 ?k12 ?a13 ?l13 ?c13 ?k13 ?a14 ?l14 ?c14 ?k14 ?a15 ?l15 ?c15 ?k15 ?a16 ?l16 ?c16 ?k16 ?a17 ?l17 ?c17 ?k17 ?a18 ?l18 ?c18 ?k18 ?a19 ?l19 ?c19 ?k19 ?a20 ?l20 ?c20 ?k20 ?a21 ?l21 ?c21 ?k21 ?a22 ?l22 ?c22 ?k22 ?a23 ?l23 ?c23 ?k23 ?a24 ?l24 ?c24 ?k24 ?a25 ?l25 ?c25 ?k25 ?a26 ?l26 ?c26 ?k26 ?a27 ?l27 ?c27 ?k27 ?a28 ?l28 ?c28 ?k28 ?a29 ?l29 ?c29 ?k29 ?a30 ?l30 ?c30 ?k30 ?a31 ?l31 ?c31 ?k31 ?a32 ?l32 ?c32 ?k32 ?a33 ?l33 ?c33 ?k33 ?a34 ?l34 ?c34 ?k34 ?a35 ?l35 ?c35 ?k35 ?a36 ?l36 ?c36 ?k36 ?a37 ?l37 ?c37 ?k37 ?a38 ?l38 ?c38 ?k38 ?a39 ?l39 ?c39 ?k39 ?a40 ?l40 ?c40 ?k40 ?a41 ?l41 ?c41 ?k41 ?a42 ?l42 ?c42 ?k42 ?a43 ?l43 ?c43 ?k43 ?a44 ?l44 ?c44 ?k44 ?a45 ?l45 ?c45 ?k45 ?a46 ?l46 ?c46 ?k46 ?a47 ?l47 ?c47 ?k47 ?a48 ?l48 ?c48 ?k48 ?a49 ?l49 ?c49 ?k49 ?a50 ?l50 ?c50 ?k50 ?a51 ?l51 ?c51 ?k51 ?a52 ?l52 ?c52 ?k52 ?a53 ?l53 ?c53 ?k53 ?a54 ?l54 ?c54 ?k54 ?a55 ?l55 ?c55 ?k55 ?a56 ?l56 ?c56 ?k56 ?a57 ?l57 ?c57 ?k57 ?a58 ?l58 ?c58 ?k58 ?a59 ?l59 ?c59 ?k59 ?a60 ?l60 ?c60 ?k60 ?a61 ?l61 ?c61 ?k61 ?a62 ?l62 ?c62 ?k62 ?a63 ?l63 ?c63 ?k63 ?a64 ?l64 ?c64 ?k64 ?a65 ?l65 ?c65 ?k65 ?a66 ?l66 ?c66 ?k66 ?a67 ?l67 ?c67 ?k67 ?a68 ?l68 ?c68 ?k68 ?z_abs ?z_all ?z_any ?z_bool ?z_dict ?z_divmod ?z_enumerate ?z_int ?z_isinstance ?z_len ?z_list ?z_max ?z_min ?z_range ?z_repr ?z_sorted ?z_str ?z_sum ?z_tuple ?z_zip ?zm_gcd ?zm_isqrt
    (case a1 => k_is); (case l1 => k_is); (case c1 => k_is); (case k1 => k_is); (case a2 => k_is); (case l2 => k_is); (case c2 => k_is); (case k2 => k_is); (case a3 => k_is); (case l3 => k_is); (case c3 => k_is); (case k3 => k_is); (case a4 => k_is); (case l4 => k_is); (case c4 => k_is); (case k4 => k_is); (case a5 => k_is); (case l5 => k_is); (case c5 => k_is); (case k5 => k_is); (case a6 => k_is); (case l6 => k_is); (case c6 => k_is); (case k6 => k_is); (case a7 => k_is); (case l7 => k_is); (case c7 => k_is); (case k7 => k_is); (case a8 => k_is); (case l8 => k_is); (case c8 => k_is); (case k8 => k_is); (case a9 => k_is); (case l9 => k_is); (case c9 => k_is); (case k9 => k_is); (case a10 => k_is); (case l10 => k_is); (case c10 => k_is); (case k10 => k_is); (case a11 => k_is); (case l11 => k_is); (case c11 => k_is); (case k11 => k_is); (case a12 => k_is); (case l12 => k_is); (case c12 => k_is); (case k12 => k_is); (case a13 => k_is); (case l13 => k_is); (case c13 => k_is); (case k13 => k_is); (case a14 => k_is); (case l14 => k_is); (case c14 => k_is); (case k14 => k_is); (case a15 => k_is); (case l15 => k_is); (case c15 => k_is); (case k15 => k_is); (case a16 => k_is); (case l16 => k_is); (case c16 => k_is); (case k16 => k_is); (case a17 => k_is); (case l17 => k_is); (case c17 => k_is); (case k17 => k_is); (case a18 => k_is); (case l18 => k_is); (case c18 => k_is); (case k18 => k_is); (case a19 => k_is); (case l19 => k_is); (case c19 => k_is); (case k19 => k_is); (case a20 => k_is); (case l20 => k_is); (case c20 => k_is); (case k20 => k_is); (case a21 => k_is); (case l21 => k_is); (case c21 => k_is); (case k21 => k_is); (case a22 => k_is); (case l22 => k_is); (case c22 => k_is); (case k22 => k_is); (case a23 => k_is); (case l23 => k_is); (case c23 => k_is); (case k23 => k_is); (case a24 => k_is); (case l24 => k_is); (case c24 => k_is); (case k24 => k_is); (case a25 => k_is); (case l25 => k_is); (case c25 => k_is); (case k25 => k_is); (case a26 => k_is); (case l26 => k_is); (case c26 => k_is); (case k26 => k_is); (case a27 => k_is); (case l27 => k_is); (case c27 => k_is); (case k27 => k_is); (case a28 => k_is); (case l28 => k_is); (case c28 => k_is); (case k28 => k_is); (case a29 => k_is); (case l29 => k_is); (case c29 => k_is); (case k29 => k_is); (case a30 => k_is); (case l30 => k_is); (case c30 => k_is); (case k30 => k_is); (case a31 => k_is); (case l31 => k_is); (case c31 => k_is); (case k31 => k_is); (case a32 => k_is); (case l32 => k_is); (case c32 => k_is); (case k32 => k_is); (case a33 => k_is); (case l33 => k_is); (case c33 => k_is); (case k33 => k_is); (case a34 => k_is); (case l34 => k_is); (case c34 => k_is); (case k34 => k_is); (case a35 => k_is); (case l35 => k_is); (case c35 => k_is); (case k35 => k_is); (case a36 => k_is); (case l36 => k_is); (case c36 => k_is); (case k36 => k_is); (case a37 => k_is); (case l37 => k_is); (case c37 => k_is); (case k37 => k_is); (case a38 => k_is); (case l38 => k_is); (case c38 => k_is); (case k38 => k_is); (case a39 => k_is); (case l39 => k_is); (case c39 => k_is); (case k39 => k_is); (case a40 => k_is); (case l40 => k_is); (case c40 => k_is); (case k40 => k_is); (case a41 => k_is); (case l41 => k_is); (case c41 => k_is); (case k41 => k_is); (case a42 => k_is); (case l42 => k_is); (case c42 => k_is); (case k42 => k_is); (case a43 => k_is); (case l43 => k_is); (case c43 => k_is); (case k43 => k_is); (case a44 => k_is); (case l44 => k_is); (case c44 => k_is); (case k44 => k_is); (case a45 => k_is); (case l45 => k_is); (case c45 => k_is); (case k45 => k_is); (case a46 => k_is); (case l46 => k_is); (case c46 => k_is); (case k46 => k_is); (case a47 => k_is); (case l47 => k_is); (case c47 => k_is); (case k47 => k_is); (case a48 => k_is); (case l48 => k_is); (case c48 => k_is); (case k48 => k_is); (case a49 => k_is); (case l49 => k_is); (case c49 => k_is); (case k49 => k_is); (case a50 => k_is); (case l50 => k_is); (case c50 => k_is); (case k50 => k_is); (case a51 => k_is); (case l51 => k_is); (case c51 => k_is); (case k51 => k_is); (case a52 => k_is); (case l52 => k_is); (case c52 => k_is); (case k52 => k_is); (case a53 => k_is); (case l53 => k_is); (case c53 => k_is); (case k53 => k_is); (case a54 => k_is); (case l54 => k_is); (case c54 => k_is); (case k54 => k_is); (case a55 => k_is); (case l55 => k_is); (case c55 => k_is); (case k55 => k_is); (case a56 => k_is); (case l56 => k_is); (case c56 => k_is); (case k56 => k_is); (case a57 => k_is); (case l57 => k_is); (case c57 => k_is); (case k57 => k_is); (case a58 => k_is); (case l58 => k_is); (case c58 => k_is); (case k58 => k_is); (case a59 => k_is); (case l59 => k_is); (case c59 => k_is); (case k59 => k_is); (case a60 => k_is); (case l60 => k_is); (case c60 => k_is); (case k60 => k_is); (case a61 => k_is); (case l61 => k_is); (case c61 => k_is); (case k61 => k_is); (case a62 => k_is); (case l62 => k_is); (case c62 => k_is); (case k62 => k_is); (case a63 => k_is); (case l63 => k_is); (case c63 => k_is); (case k63 => k_is); (case a64 => k_is); (case l64 => k_is); (case c64 => k_is); (case k64 => k_is); (case a65 => k_is); (case l65 => k_is); (case c65 => k_is); (case k65 => k_is); (case a66 => k_is); (case l66 => k_is); (case c66 => k_is); (case k66 => k_is); (case a67 => k_is); (case l67 => k_is); (case c67 => k_is); (case k67 => k_is); (case a68 => k_is); (case l68 => k_is); (case c68 => k_is); (case k68 => k_is); (case z_abs => k_is); (case z_all => k_is); (case z_any => k_is); (case z_bool => k_is); (case z_dict => k_is); (case z_divmod => k_is); (case z_enumerate => k_is); (case z_int => k_is); (case z_isinstance => k_is); (case z_len => k_is); (case z_list => k_is); (case z_max => k_is); (case z_min => k_is); (case z_range => k_is); (case z_repr => k_is); (case z_sorted => k_is); (case z_str => k_is); (case z_sum => k_is); (case z_tuple => k_is); (case z_zip => k_is); (case zm_gcd => k_is); (case zm_isqrt => k_is)

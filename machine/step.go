package machine

import (
	"races/api"
	"races/flow"
)

// turn is one step: whose it is, the statement that is done, and its event as far as it has come.
type turn struct {
	*Machine
	thread    *thread
	statement flow.Statement
	event     api.Event
}

// step: that thread does its next statement.
func (m *Machine) step(number int) api.Event {
	t := &turn{Machine: m, thread: m.threads[number]}
	place := t.thread.top().place
	t.event = api.Event{Thread: number, Place: place, Obj: -1, Val: api.Number(0)}
	if place == flow.End {
		t.event.Kind = api.SReturn
		t.giveBack(api.Number(0))
	} else {
		t.statement = m.program.Statements[place]
		t.event.Kind = t.statement.Kind
		if !t.do() {
			t.fail()
		}
	}
	t.event.Ended = t.thread.ended()
	return t.event
}

// fail: the thread ends as it stands, and tells no more than where.
func (t *turn) fail() {
	t.event = api.Event{Thread: t.event.Thread, Kind: api.Faulty, Place: t.event.Place, Obj: -1, Val: api.Number(0)}
	t.thread.frames = nil
}

// do does the statement; it says no if that fails.
func (t *turn) do() bool {
	switch t.statement.Kind {
	case api.SCall:
		return t.call()
	case api.SReturn:
		t.returns()
		return true
	case api.SIf, api.SWhile:
		t.test()
		return true
	}
	if !t.simple() {
		return false
	}
	t.thread.top().place = t.statement.Next
	return true
}

// simple does a statement behind which its function goes on with the next one.
func (t *turn) simple() bool {
	switch t.statement.Kind {
	case api.SSet:
		return t.set()
	case api.SLoad:
		t.load()
	case api.SStore:
		t.store()
	case api.SGet:
		return t.get()
	case api.SPut:
		return t.put()
	case api.SNew:
		return t.create()
	case api.SGo:
		return t.start()
	case api.SJoin:
		return t.join()
	case api.SLock:
		t.lock()
	case api.SUnlock:
		return t.unlock()
	}
	return true
}

// first is what stands first on the right.
func (t *turn) first() api.Value { return t.thread.value(t.statement.Right[0]) }

// give assigns what the statement has come to, and tells it.
func (t *turn) give(v api.Value) {
	t.thread.assign(t.statement.Left, v)
	t.event.Val = v
}

func (t *turn) set() bool {
	v := t.first()
	if t.statement.Op != api.ONone {
		var ok bool
		v, ok = operate(t.statement.Op, v, t.thread.value(t.statement.Right[1]))
		if !ok {
			return false
		}
	}
	t.give(v)
	return true
}

func (t *turn) load() {
	t.event.Field = t.statement.Right[0].Name.Number
	t.give(t.read(cell{object: -1, field: t.event.Field}))
}

func (t *turn) store() {
	t.event.Field = t.statement.Left.Number
	t.write(cell{object: -1, field: t.event.Field}, t.first())
}

func (t *turn) get() bool {
	o, ok := t.first().(api.Object)
	if !ok {
		return false
	}
	t.give(t.read(t.field(o)))
	return true
}

func (t *turn) put() bool {
	o, ok := t.thread.top().locals[t.statement.Left.Number].(api.Object)
	if !ok {
		return false
	}
	t.write(t.field(o), t.first())
	return true
}

// field is the statement's field of that object; it is told.
func (t *turn) field(o api.Object) cell {
	t.event.Obj = int(o)
	t.event.Field = t.statement.Side
	return cell{object: int(o), field: t.statement.Side}
}

func (t *turn) read(c cell) api.Value {
	if v, ok := t.holds[c]; ok {
		return v
	}
	return api.Number(0)
}

func (t *turn) write(c cell, v api.Value) {
	t.holds[c] = v
	t.event.Val = v
}

func (t *turn) create() bool {
	if t.objects == api.MaxObjects {
		return false
	}
	t.event.Obj = t.objects
	t.give(api.Object(t.objects))
	t.objects++
	return true
}

func (t *turn) start() bool {
	number := len(t.threads)
	if number == api.MaxThreads {
		return false
	}
	t.threads = append(t.threads, &thread{frames: []frame{t.begins()}})
	t.event.Obj = number
	t.thread.assign(t.statement.Left, api.Thread(number))
	return true
}

// begins is the function that the statement names, with its arguments.
func (t *turn) begins() frame {
	return t.begin(t.statement.Named.Number, t.thread.values(t.statement.Right))
}

func (t *turn) join() bool {
	other, ok := t.first().(api.Thread)
	if !ok {
		return false
	}
	t.event.Obj = int(other)
	return true
}

func (t *turn) lock() {
	t.event.Field = t.statement.Named.Number
	t.holders[t.event.Field] = t.event.Thread
}

func (t *turn) unlock() bool {
	t.event.Field = t.statement.Named.Number
	holder, held := t.holders[t.event.Field]
	if !held || holder != t.event.Thread {
		return false
	}
	delete(t.holders, t.event.Field)
	return true
}

func (t *turn) call() bool {
	if len(t.thread.frames) == api.MaxFrames {
		return false
	}
	t.thread.frames = append(t.thread.frames, t.begins())
	return true
}

func (t *turn) returns() {
	if len(t.statement.Right) > 0 {
		t.event.Val = t.first()
	}
	t.giveBack(t.event.Val)
}

// giveBack leaves the innermost function; the call at which the one around it stands is done then.
func (t *turn) giveBack(v api.Value) {
	t.thread.frames = t.thread.frames[:len(t.thread.frames)-1]
	if t.thread.ended() {
		return
	}
	f := t.thread.top()
	call := t.program.Statements[f.place]
	t.thread.assign(call.Left, v)
	f.place = call.Next
}

func (t *turn) test() {
	t.event.Val = t.first()
	next := t.statement.Next
	if t.event.Val != api.Number(0) {
		next = t.statement.Inside
	}
	t.thread.top().place = next
}

package tests

import (
	"reflect"
	"runtime"
	"strings"
	"testing"
)

// behind is how far the memory of a watched list goes beyond its length.
const behind = 3

// nameOf is how a function of the program is called.
func nameOf(f any) string {
	full := runtime.FuncForPC(reflect.ValueOf(f).Pointer()).Name()
	return full[strings.LastIndex(full, ".")+1:]
}

// stretched copies a value such that each list in it lies in longer memory, with marks behind its length.
func stretched(v reflect.Value, mark int) reflect.Value {
	switch v.Kind() {
	case reflect.Slice:
		n := v.Len()
		long := reflect.MakeSlice(v.Type(), n+behind, n+behind)
		for i := range n {
			long.Index(i).Set(stretched(v.Index(i), mark))
		}
		for i := n; i < n+behind; i++ {
			setMark(long.Index(i), mark)
		}
		return long.Slice(0, n)
	case reflect.Struct:
		wide := reflect.New(v.Type()).Elem()
		for i := range v.NumField() {
			wide.Field(i).Set(stretched(v.Field(i), mark))
		}
		return wide
	}
	return v
}

// setMark writes what would be seen if it were read: numbers, and lists of one of them.
func setMark(v reflect.Value, mark int) {
	switch v.Kind() {
	case reflect.Int:
		v.SetInt(int64(mark))
	case reflect.Slice:
		v.Set(reflect.MakeSlice(v.Type(), 1, 1))
		setMark(v.Index(0), mark)
	case reflect.Struct:
		for i := range v.NumField() {
			setMark(v.Field(i), mark)
		}
	}
}

// opened copies a value with all that lies behind the lengths of its lists.
func opened(v reflect.Value) reflect.Value {
	switch v.Kind() {
	case reflect.Slice:
		all := v.Slice(0, v.Cap())
		out := reflect.MakeSlice(v.Type(), all.Len(), all.Len())
		for i := range all.Len() {
			out.Index(i).Set(opened(all.Index(i)))
		}
		return out
	case reflect.Struct:
		out := reflect.New(v.Type()).Elem()
		for i := range v.NumField() {
			out.Field(i).Set(opened(v.Field(i)))
		}
		return out
	}
	return v
}

// sameValue holds the empty list and the nil list for one value.
func sameValue(a, b reflect.Value) bool {
	switch a.Kind() {
	case reflect.Slice:
		if a.Len() != b.Len() {
			return false
		}
		for i := range a.Len() {
			if !sameValue(a.Index(i), b.Index(i)) {
				return false
			}
		}
		return true
	case reflect.Struct:
		for i := range a.NumField() {
			if !sameValue(a.Field(i), b.Field(i)) {
				return false
			}
		}
		return true
	}
	return a.Interface() == b.Interface()
}

// room is where a list lies in memory, as far as it may be put behind.
type room struct{ from, to uintptr }

func roomsOf(v reflect.Value) []room {
	var rooms []room
	switch v.Kind() {
	case reflect.Slice:
		if size := uintptr(v.Cap()) * v.Type().Elem().Size(); size > 0 {
			rooms = append(rooms, room{v.Pointer(), v.Pointer() + size})
		}
		for i := range v.Len() {
			rooms = append(rooms, roomsOf(v.Index(i))...)
		}
	case reflect.Struct:
		for i := range v.NumField() {
			rooms = append(rooms, roomsOf(v.Field(i))...)
		}
	}
	return rooms
}

func overlap(a, b room) bool {
	return a.from < b.to && b.from < a.to
}

func valuesOf(args []any) []reflect.Value {
	values := make([]reflect.Value, len(args))
	for i, a := range args {
		values[i] = reflect.ValueOf(a)
	}
	return values
}

// told are all answers of one call.
type told []reflect.Value

func (x told) zero() bool {
	for _, v := range x {
		if !sameValue(v, reflect.Zero(v.Type())) {
			return false
		}
	}
	return true
}

func sameTold(x, y told) bool {
	for i := range x {
		if !sameValue(x[i], y[i]) {
			return false
		}
	}
	return true
}

// watch is promise 19 for one call: it does not panic; it writes into no argument, also not behind a length, and what lies there changes no answer; no list of its answers lies where an argument or another one of them does.
func watch(t *testing.T, f any, args ...any) told {
	t.Helper()
	name := nameOf(f)
	defer func() {
		if fault := recover(); fault != nil {
			t.Fatalf("%s %v: panic: %v", name, args, fault)
		}
	}()
	call := reflect.ValueOf(f)
	plainly := told(call.Call(valuesOf(args)))
	for _, mark := range []int{1, -9} {
		given := valuesOf(args)
		before := make([]reflect.Value, len(given))
		for i := range given {
			given[i] = stretched(given[i], mark)
			before[i] = opened(given[i])
		}
		got := told(call.Call(given))
		if !sameTold(plainly, got) {
			t.Fatalf("%s %v: %v, with memory behind the lengths %v", name, args, plainly, got)
		}
		rooms := []room{}
		for i := range given {
			if !reflect.DeepEqual(opened(given[i]).Interface(), before[i].Interface()) {
				t.Fatalf("%s %v: wrote into argument %d: %v", name, args, i, opened(given[i]))
			}
			rooms = append(rooms, roomsOf(given[i])...)
		}
		checkApart(t, name, args, rooms, got)
	}
	return plainly
}

func checkApart(t *testing.T, name string, args []any, taken []room, got told) {
	t.Helper()
	for _, v := range got {
		for _, r := range roomsOf(v) {
			for _, other := range taken {
				if overlap(r, other) {
					t.Fatalf("%s %v: %v shares memory", name, args, v)
				}
			}
			taken = append(taken, r)
		}
	}
}

// wantZero wants the zero answer of arguments that are not as said.
func wantZero(t *testing.T, f any, args ...any) {
	t.Helper()
	if x := watch(t, f, args...); !x.zero() {
		t.Errorf("%s %v: %v, want the zero answer", nameOf(f), args, x)
	}
}

// wantDirectly calls with the arguments as they are, so that they may share memory with each other, which watch takes apart.
func wantDirectly(t *testing.T, f any, want told, args ...any) {
	t.Helper()
	given := valuesOf(args)
	got := told(reflect.ValueOf(f).Call(given))
	if !sameTold(got, want) {
		t.Fatalf("%s %v in one memory: %v, want %v", nameOf(f), args, got, want)
	}
	rooms := []room{}
	for _, v := range given {
		rooms = append(rooms, roomsOf(v)...)
	}
	checkApart(t, nameOf(f), args, rooms, got)
}

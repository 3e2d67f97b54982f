package fresh

import (
	"reflect"
	"testing"

	"soundservice/api"
)

// fill makes all slices of a value two elements long, and everything different from zero.
func fill(v reflect.Value) {
	switch v.Kind() {
	case reflect.Struct:
		for i := range v.NumField() {
			fill(v.Field(i))
		}
	case reflect.Array:
		for i := range v.Len() {
			fill(v.Index(i))
		}
	case reflect.Slice:
		v.Set(reflect.MakeSlice(v.Type(), 2, 4))
		for i := range v.Len() {
			fill(v.Index(i))
		}
	case reflect.Int, reflect.Int32, reflect.Int64:
		v.SetInt(7)
	case reflect.Uint8, reflect.Uint64:
		v.SetUint(7)
	case reflect.String:
		v.SetString("x")
	case reflect.Bool:
		v.SetBool(true)
	}
}

// memory adds where the slices of a value are.
func memory(v reflect.Value, seen map[uintptr]bool) {
	switch v.Kind() {
	case reflect.Struct:
		for i := range v.NumField() {
			memory(v.Field(i), seen)
		}
	case reflect.Slice:
		seen[v.Pointer()] = true
		for i := range v.Len() {
			memory(v.Index(i), seen)
		}
	}
}

func check[T any](t *testing.T, copied func(T) T) {
	t.Helper()
	var x T
	if !reflect.DeepEqual(copied(x), x) {
		t.Errorf("the copy of a zero %T differs", x)
	}
	fill(reflect.ValueOf(&x).Elem())
	y := copied(x)
	if !reflect.DeepEqual(x, y) {
		t.Errorf("the copy of a %T differs", x)
	}
	a, b := map[uintptr]bool{}, map[uintptr]bool{}
	memory(reflect.ValueOf(x), a)
	memory(reflect.ValueOf(y), b)
	for p := range b {
		if a[p] {
			t.Errorf("the copy of a %T shares memory", x)
		}
	}
}

// Rule 1 of the document: results share no memory with arguments.
func TestCopies(t *testing.T) {
	check(t, Set)
	check(t, Box)
	check(t, Boxes)
	check(t, Format)
	check(t, Choice)
	check(t, Descriptor)
	check(t, Clock)
	check(t, Matrix)
	check(t, Resampler)
	check(t, Converter)
	check(t, Ring)
	check(t, Bridge)
	check(t, Stream)
	check(t, Device)
	check(t, Graph)
	check(t, Block)
	check(t, Voice)
	check(t, Outlet)
	check(t, Engine)
	check(t, Choose)
	check(t, Memory)
	check(t, Recorder)
	check(t, Watch)
	check(t, Session)
	check(t, Rule)
	check(t, Known)
	check(t, Book)
	check(t, Service)
	check(t, func(e api.Engine) api.Engine { return Engine(Engine(e)) })
}

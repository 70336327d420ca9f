package clone_test

import (
	"reflect"
	"testing"

	"wherry/api"
	"wherry/clone"
)

// overwrite changes every element of every slice that v holds.
func overwrite(v reflect.Value) {
	switch v.Kind() {
	case reflect.Slice:
		for i := range v.Len() {
			overwrite(v.Index(i))
		}
	case reflect.Struct:
		for i := range v.NumField() {
			overwrite(v.Field(i))
		}
	case reflect.Int:
		v.SetInt(v.Int() + 1)
	case reflect.Uint8:
		v.SetUint(v.Uint() ^ 255)
	case reflect.String:
		v.SetString(v.String() + "x")
	case reflect.Bool:
		v.SetBool(!v.Bool())
	}
}

// try copies twice, and changes the first copy.
func try[T any](t *testing.T, v T, copied func(T) T) {
	t.Helper()
	first, second := copied(v), copied(v)
	if !reflect.DeepEqual(first, v) {
		t.Errorf("%v is not %v", first, v)
	}
	overwrite(reflect.ValueOf(&first).Elem())
	if !reflect.DeepEqual(second, v) || reflect.DeepEqual(first, v) {
		t.Errorf("%v shares memory", v)
	}
}

func TestCopies(t *testing.T) {
	p := api.Path{Local: "a", Domain: "b"}
	m := api.Mail{From: p, To: []api.Path{p, {Null: true}}, Body: []byte("x\r\n"), Quiet: true, Helo: "h", At: 3}
	item := api.Item{Id: 1, Mail: m, State: 2, Pack: 3}
	try(t, m, clone.Mail)
	try(t, item, clone.Item)
	try(t, api.Rec{Kind: 1, Mail: m, Id: 2, Ids: []int{3, 4}, Origin: 5, Number: 6, Offset: 7, Data: []byte("d")}, clone.Rec)
	try(t, api.Spool{Items: []api.Item{item, item}, Packs: 1, Sent: []int{2}, Part: []byte("p"), Of: 3, Done: []int{4, 5}}, clone.Spool)
	try(t, api.Gate{Phase: 1, Helo: "h", From: p, To: []api.Path{p}, Quiet: true, Buf: []byte("b"), Challenge: "c", Proved: true}, clone.Gate)
	try(t, api.Send{Number: 1, Data: []byte("d"), Ready: true, Base: 1, Next: 2, Wait: 3, Over: true}, clone.Send)
	try(t, api.Event{Kind: 1, Site: 1, From: p, To: p, Body: []byte("b")}, clone.Event)
	try(t, api.Letter{To: 1, Body: []byte("b"), Spoilt: true}, clone.Letter)
	try(t, []int{1, 2}, clone.List[int])
	try(t, []api.Mail{m, m}, func(l []api.Mail) []api.Mail { return clone.Each(l, clone.Mail) })
}

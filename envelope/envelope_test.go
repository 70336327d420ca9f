package envelope_test

import (
	"slices"
	"testing"

	"wherry/api"
	"wherry/envelope"
)

func TestValid(t *testing.T) {
	ab, null := api.Path{Local: "a", Domain: "b"}, api.Path{Null: true}
	for k, c := range []struct {
		from api.Path
		to   []api.Path
		want bool
	}{
		{ab, []api.Path{ab}, true}, {null, []api.Path{ab}, true}, {ab, slices.Repeat([]api.Path{ab}, 8), true},
		{ab, slices.Repeat([]api.Path{ab}, 9), false}, {ab, nil, false}, {api.Path{}, []api.Path{ab}, false}, {ab, []api.Path{ab, null}, false}, {ab, []api.Path{{}, ab}, false}, {ab, []api.Path{ab, {Local: "a"}}, false},
	} {
		if got := envelope.Valid(api.Mail{From: c.from, To: c.to}); got != c.want {
			t.Error(k, got)
		}
	}
}

func TestAt(t *testing.T) {
	box := func(local, domain string) api.Path { return api.Path{Local: local, Domain: domain} }
	m := api.Mail{To: []api.Path{box("a", "b"), box("c", "d"), box("e", "B"), {Null: true}, box("", "b"), box("a", "b")}}
	if got := envelope.At(m, "b"); !slices.Equal(got, []api.Path{box("a", "b"), box("e", "B"), box("a", "b")}) {
		t.Error(got)
	}
	if got := envelope.At(m, "x"); len(got) != 0 {
		t.Error(got)
	}
}

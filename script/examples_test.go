package script_test

import (
	"testing"

	"tollhouse/api"
	"tollhouse/script"
)

// TestExamples: every line of the chapter's examples.
func TestExamples(t *testing.T) {
	branches := "6a 01 01 6b 01 00 6c"
	for _, c := range []struct {
		program string
		witness [][]byte
		want    api.Errno
	}{
		{"01 01", nil, api.OK},
		{"01 00", nil, api.ErrScriptFalse},
		{"", items("01"), api.OK},
		{"", nil, api.ErrScriptFalse},
		{"62", items("05", "05"), api.OK},
		{"62", items("05"), api.ErrScriptStack},
		{"70", nil, api.ErrScriptOp},
		{"02 01", nil, api.ErrScriptOp},
		{"01 05 69 01 01", nil, api.OK},
		{"01 06 69 01 01", nil, api.ErrScriptEarly},
		{branches, items("01"), api.OK},
		{branches, items("00"), api.ErrScriptFalse},
		{"6a", nil, api.ErrScriptIf},
		{"6b", nil, api.ErrScriptIf},
		{"00 60", nil, api.ErrScriptVerify},
		{"00 61", nil, api.OK},
	} {
		runs(t, "P13.2 (the chapter's examples)", hexes(c.program), c.witness, c.want)
	}
	s := newSigner(7)
	runs(t, "P13.5 (the chapter's examples)", script.Pay(s.key), [][]byte{s.sign(text)}, api.OK)
	runs(t, "P13.5 (the chapter's examples)", script.Pay(s.key), [][]byte{newSigner(8).sign(text)}, api.ErrScriptFalse)
	runs(t, "P13.5 (the chapter's examples)", script.Pay(s.key), [][]byte{make([]byte, 64)}, api.ErrScriptFalse)
}

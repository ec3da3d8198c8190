package tests

import (
	"bytes"
	"go/ast"
	"go/format"
	"go/parser"
	"go/token"
	"os"
	"path/filepath"
	"strings"
	"testing"
)

const funcLines = 60

const allowedImports = ` "bytes" "cmp" "container/heap" "errors" "iter" "maps" "math" "math/big" "math/bits" "slices" "sort" "strconv" "strings" "sync" "sync/atomic" "unicode" "unicode/utf8" `

// The rules of the language page that a look at the text can tell.
func TestLanguage(t *testing.T) {
	files, err := filepath.Glob("../impl/*")
	if err != nil || len(files) == 0 {
		t.Fatalf("no files of the program: %v", err)
	}
	for _, path := range files {
		if !strings.HasSuffix(path, ".go") {
			t.Errorf("%s: a file beside the Go files", path)
			continue
		}
		text, err := os.ReadFile(path)
		if err != nil {
			t.Fatal(err)
		}
		checkLanguage(t, path, text)
	}
}

func checkLanguage(t *testing.T, path string, text []byte) {
	t.Helper()
	laid, err := format.Source(text)
	if err != nil || !bytes.Equal(laid, text) {
		t.Errorf("%s: not in gofmt's layout: %v", path, err)
	}
	if bytes.Contains(text, []byte("//go:")) || bytes.Contains(text, []byte("// +build")) {
		t.Errorf("%s: a //go: line", path)
	}
	set := token.NewFileSet()
	file, err := parser.ParseFile(set, path, text, parser.SkipObjectResolution)
	if err != nil {
		t.Fatal(err)
	}
	for _, i := range file.Imports {
		if !strings.Contains(allowedImports, " "+i.Path.Value+" ") {
			t.Errorf("%s: import of %s", path, i.Path.Value)
		}
	}
	for _, d := range file.Decls {
		f, ok := d.(*ast.FuncDecl)
		if !ok {
			continue
		}
		if n := set.Position(f.End()).Line - set.Position(f.Pos()).Line + 1; n > funcLines {
			t.Errorf("%s: %s has %d lines", path, f.Name.Name, n)
		}
		if f.Recv == nil && f.Name.Name == "init" {
			t.Errorf("%s: an init", path)
		}
	}
}

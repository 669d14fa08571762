package keepsake_test

import (
	"go/ast"
	"go/parser"
	"go/token"
	"path/filepath"
	"strings"
	"testing"
)

// packageFiles are the files of a folder's package, without its tests.
func packageFiles(t *testing.T, folder string) []*ast.File {
	t.Helper()
	paths, err := filepath.Glob(filepath.Join(folder, "*.go"))
	if err != nil {
		t.Fatal(err)
	}
	var files []*ast.File
	for _, path := range paths {
		if strings.HasSuffix(path, "_test.go") {
			continue
		}
		file, err := parser.ParseFile(token.NewFileSet(), path, nil, 0)
		if err != nil {
			t.Fatal(err)
		}
		files = append(files, file)
	}
	if len(files) == 0 {
		t.Fatalf("no package in %s", folder)
	}
	return files
}

// levelVariables are the variables at package level, by name: whether each has a value that is written out (or made by errors.New).
func levelVariables(files []*ast.File) map[string]bool {
	found := map[string]bool{}
	for _, file := range files {
		for _, d := range file.Decls {
			group, ok := d.(*ast.GenDecl)
			if !ok || group.Tok != token.VAR {
				continue
			}
			for _, s := range group.Specs {
				spec := s.(*ast.ValueSpec)
				for i, name := range spec.Names {
					found[name.Name] = i < len(spec.Values) && writtenOut(spec.Values[i])
				}
			}
		}
	}
	return found
}

func writtenOut(value ast.Expr) bool {
	switch v := value.(type) {
	case *ast.CompositeLit:
		return len(v.Elts) > 0
	case *ast.CallExpr:
		f, ok := v.Fun.(*ast.SelectorExpr)
		return ok && rootName(f) == "errors" && f.Sel.Name == "New"
	}
	return false
}

// rootName is the name of which an expression is a part: x of x.y[z].
func rootName(e ast.Expr) string {
	for {
		switch x := e.(type) {
		case *ast.Ident:
			return x.Name
		case *ast.SelectorExpr:
			e = x.X
		case *ast.IndexExpr:
			e = x.X
		case *ast.ParenExpr:
			e = x.X
		default:
			return ""
		}
	}
}

// touched are the expressions that a node writes to, or whose address it takes or may take.
func touched(n ast.Node) []ast.Expr {
	switch x := n.(type) {
	case *ast.AssignStmt:
		if x.Tok != token.DEFINE {
			return x.Lhs
		}
	case *ast.IncDecStmt:
		return []ast.Expr{x.X}
	case *ast.RangeStmt:
		if x.Tok == token.ASSIGN {
			return []ast.Expr{x.Key, x.Value}
		}
	case *ast.UnaryExpr:
		if x.Op == token.AND {
			return []ast.Expr{x.X}
		}
	case *ast.SliceExpr:
		return []ast.Expr{x.X}
	case *ast.CallExpr:
		if f, ok := x.Fun.(*ast.SelectorExpr); ok {
			return []ast.Expr{f.X}
		}
	}
	return nil
}

// What stands at package level is written out there and only read: what one call answers may not hang on the calls ahead of it.
func TestPackageLevelIsOnlyRead(t *testing.T) {
	for _, folder := range []string{".", "../sums"} {
		files := packageFiles(t, folder)
		variables := levelVariables(files)
		for name, written := range variables {
			if !written {
				t.Errorf("package level: %s: the value of %s is not written out where it is declared", folder, name)
			}
		}
		for _, file := range files {
			ast.Inspect(file, func(n ast.Node) bool {
				for _, e := range touched(n) {
					if _, ok := variables[rootName(e)]; ok {
						t.Errorf("package level: %s: %s is written to, or its address taken", folder, rootName(e))
					}
				}
				return true
			})
		}
	}
}

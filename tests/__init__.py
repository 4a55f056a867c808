"""The tests of namesalone."""

"""Last of kind: logs from which earlier entries may be left out."""

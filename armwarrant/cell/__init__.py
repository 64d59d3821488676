"""The cell: its contents, their edits, and the questions about what could touch."""

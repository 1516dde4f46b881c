"""A valley of villages: its votes, its school, its bus and its posts."""

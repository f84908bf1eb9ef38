"""Rows more even than others: evenrowsdesk.desk.answers(calls)."""

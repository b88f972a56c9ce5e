"""Sheets of facts with two times: when something holds, and how much had been told."""

"""Sheets made of sheets, kept up by change. What is asked for lies in keptsheets.page."""

"""What a program can check of ../shared/LANGUAGE.md: faults as (rule, file, line, words)."""
